import Derived.Test.YtoanjdndmlffdaaGreatDoorSiteB
set_option maxHeartbeats 16000000
set_option maxRecDepth 100000
namespace Go.Proofs.YtoanjdndmlffdaaGreatDoor
open Go.RowKit
section
variable {v:Bool}
theorem q6t {x c:Int} (h:(qi x&&qi c)=v) (w:World):
 Ca 270 #[.agg #[U x,U c]] w (Rn (.bool v) w):=by
 subst h;exact qe6 x c w
theorem qh7 {a0 a1 a2 a3:Int} (h:jb a0 a1 a2 a3=v) (w:World):
 Ca 203 #[.agg #[U a0,U a1,U a2,U a3]] w (Rn (.bool v) w):=by
 subst h;exact qw6 a0 a1 a2 a3 w
theorem qux (j b wall i d f g h:Int) (a:Option Addr) (cap:Nat) (l:List Wr) (w:World) (D:qr w a cap l):
 Ca 252 #[.agg (List.toArray (T9 j b wall i d f g h a l.length cap))] w (Rn (.bool (jt j b wall i d f g h l)) w):=by
 have I:=qb.one;have y:=D.later (boxed (jcc _ w) (.cells (List.toArray (T9 j b wall i d f g h a l.length cap)) 102));clear D
 have n:(w.nu (List.toArray (T9 j b wall i d f g h a l.length cap)) 102).cell? (AD w.heap.size 0)=some (U j):=by go_simp
 have o:(w.nu (List.toArray (T9 j b wall i d f g h a l.length cap)) 102).cell? (AD w.heap.size 1)=some (U b):=by go_simp
 have p:(w.nu (List.toArray (T9 j b wall i d f g h a l.length cap)) 102).cell? (AD w.heap.size 2)=some (U wall):=by go_simp
 have q:(w.nu (List.toArray (T9 j b wall i d f g h a l.length cap)) 102).cell? (AD w.heap.size 3)=some (U i):=by go_simp
 have r:(w.nu (List.toArray (T9 j b wall i d f g h a l.length cap)) 102).cell? (AD w.heap.size 4)=some (U d):=by go_simp
 have s:(w.nu (List.toArray (T9 j b wall i d f g h a l.length cap)) 102).cell? (AD w.heap.size 5)=some (U f):=by go_simp
 have t:(w.nu (List.toArray (T9 j b wall i d f g h a l.length cap)) 102).cell? (AD w.heap.size 6)=some (U g):=by go_simp
 have u:(w.nu (List.toArray (T9 j b wall i d f g h a l.length cap)) 102).cell? (AD w.heap.size 7)=some (U h):=by go_simp
 have x:(w.nu (List.toArray (T9 j b wall i d f g h a l.length cap)) 102).cell? (AD w.heap.size 8)=some (.slice a l.length cap):=by go_simp
 cases p1:inB j 0 3
 ·have e:Hid (jt j b wall i d f g h l=false):=by show jt j b wall i d f g h l=false;simp only[jt,p1,Bool.false_and]
  have m:=hd1 p1;clear p1;go_enter Tryz.func252,Tryz.ntmps252
  go_wp2_with (go_at_call 202;refine(qhv m.out _).mono ?_;rintro e C ⟨rfl,c⟩;replace n:=cell_later c n;replace o:=cell_later c o;replace p:=cell_later c p;replace q:=cell_later c q;replace r:=cell_later c r;replace s:=cell_later c s;replace t:=cell_later c t;replace u:=cell_later c u;replace x:=cell_later c x;replace y:=y.later c)
  go_ret;exact⟨by rw[e.out];rfl,qa (boxed (jcc _ _) _) c⟩
 have m:=hd1 p1;by_cases s1:b<1
 ·have e:Hid (jt j b wall i d f g h l=false):=by
   have p2:inB b 1 1099511627776=false:=by simp[inB];omega
   show jt j b wall i d f g h l=false;simp only[jt,p2,Bool.and_false,Bool.false_and]
  clear p1;go_enter Tryz.func252,Tryz.ntmps252
  go_wp2_with (go_at_call 202;refine(qhv m.out _).mono ?_;rintro e C ⟨rfl,c⟩;replace n:=cell_later c n;replace o:=cell_later c o;replace p:=cell_later c p;replace q:=cell_later c q;replace r:=cell_later c r;replace s:=cell_later c s;replace t:=cell_later c t;replace u:=cell_later c u;replace x:=cell_later c x;replace y:=y.later c)
  go_ret;exact⟨by rw[e.out];rfl,qa (boxed (jcc _ _) _) c⟩
 by_cases s2:1099511627776<b
 ·have e:Hid (jt j b wall i d f g h l=false):=by
   have p2:inB b 1 1099511627776=false:=by simp[inB];omega
   show jt j b wall i d f g h l=false;simp only[jt,p2,Bool.and_false,Bool.false_and]
  clear p1;go_enter Tryz.func252,Tryz.ntmps252
  go_wp2_with (go_at_call 202;refine(qhv m.out _).mono ?_;rintro e C ⟨rfl,c⟩;replace n:=cell_later c n;replace o:=cell_later c o;replace p:=cell_later c p;replace q:=cell_later c q;replace r:=cell_later c r;replace s:=cell_later c s;replace t:=cell_later c t;replace u:=cell_later c u;replace x:=cell_later c x;replace y:=y.later c)
  go_ret;exact⟨by rw[e.out];rfl,qa (boxed (jcc _ _) _) c⟩
 have p2:inB b 1 1099511627776=true:=by rw[jk];omega
 have z:=hd1 p2;clear p2;clear p1;go_enter Tryz.func252,Tryz.ntmps252
 go_wp2_with (go_at_call 202;refine(qhv m.out _).mono ?_;rintro e C ⟨rfl,c⟩;replace n:=cell_later c n;replace o:=cell_later c o;replace p:=cell_later c p;replace q:=cell_later c q;replace r:=cell_later c r;replace s:=cell_later c s;replace t:=cell_later c t;replace u:=cell_later c u;replace x:=cell_later c x;replace y:=y.later c)
 have E:=qa (boxed (jcc _ _) _) c;clear c;replace n:=qb.cell n;replace o:=qb.cell o;replace p:=qb.cell p;replace q:=qb.cell q;replace r:=qb.cell r;replace s:=qb.cell s;replace t:=qb.cell t;replace u:=qb.cell u;replace x:=qb.cell x;cases p3:(qi wall&&qi i)
 have e:Hid (jt j b wall i d f g h l=false):=by show jt j b wall i d f g h l=false;simp only[jt,p3,Bool.and_false,Bool.false_and]
 rotate_left
 cases p4:jb d f g h
 have e:Hid (jt j b wall i d f g h l=false):=by show jt j b wall i d f g h l=false;simp only[jt,p4,Bool.and_false,Bool.false_and]
 rotate_left
 have F:=jk.1 m.out
 have G:j=0\/j=1\/j=2\/j=3:=by omega
 clear F;rcases G with rfl|rfl|rfl|rfl;by_cases k:d=b-1
 have B:(d==b-1)=true:=by simp[k]
 have e:Hid (jt 0 b wall i d f g h l=qad l):=by show jt 0 b wall i d f g h l=qad l;simp only[jt,m.out,z.out,p3,p4,Bool.and_true,Bool.true_and,qp];simp[k]
 clear k
 rotate_left
 have B:(d==b-1)=false:=by simp[k]
 have e:Hid (jt 0 b wall i d f g h l=false):=by show jt 0 b wall i d f g h l=false;simp only[jt,m.out,z.out,p3,p4,Bool.and_true,Bool.true_and,qp];simp[k]
 clear k
 rotate_left
 by_cases k:f=b-1
 have B:(f==b-1)=true:=by simp[k]
 have e:Hid (jt 1 b wall i d f g h l=qad l):=by show jt 1 b wall i d f g h l=qad l;simp only[jt,m.out,z.out,p3,p4,Bool.and_true,Bool.true_and,qp];simp[k]
 clear k
 rotate_left
 have B:(f==b-1)=false:=by simp[k]
 have e:Hid (jt 1 b wall i d f g h l=false):=by show jt 1 b wall i d f g h l=false;simp only[jt,m.out,z.out,p3,p4,Bool.and_true,Bool.true_and,qp];simp[k]
 clear k
 rotate_left
 by_cases k:g=b-1
 have B:(g==b-1)=true:=by simp[k]
 have e:Hid (jt 2 b wall i d f g h l=qad l):=by show jt 2 b wall i d f g h l=qad l;simp only[jt,m.out,z.out,p3,p4,Bool.and_true,Bool.true_and,qp];simp[k]
 clear k
 rotate_left
 have B:(g==b-1)=false:=by simp[k]
 have e:Hid (jt 2 b wall i d f g h l=false):=by show jt 2 b wall i d f g h l=false;simp only[jt,m.out,z.out,p3,p4,Bool.and_true,Bool.true_and,qp];simp[k]
 clear k
 rotate_left
 by_cases k:h=b-1
 have B:(h==b-1)=true:=by simp[k]
 have e:Hid (jt 3 b wall i d f g h l=qad l):=by show jt 3 b wall i d f g h l=qad l;simp only[jt,m.out,z.out,p3,p4,Bool.and_true,Bool.true_and,qp];simp[k]
 clear k
 rotate_left
 have B:(h==b-1)=false:=by simp[k]
 have e:Hid (jt 3 b wall i d f g h l=false):=by show jt 3 b wall i d f g h l=false;simp only[jt,m.out,z.out,p3,p4,Bool.and_true,Bool.true_and,qp];simp[k]
 clear k
 all_goals
  refine wrl ?_
  repeat (go_big_quiet_step (first|(go_at_call 270;with_reducible exact qg (q6t p3 _))|(go_at_call 203;with_reducible exact qg (qh7 p4 _))|(go_at_call 241;exact qg (qog (qr.later (qb.below _) y)))))
  refine wpQuiet_nil ?_;rintro J ⟨⟨_,H⟩,rfl⟩
  go_wp2
  go_ret;exact⟨by rw[e.out];rfl,qa E H⟩
theorem qex {b c wall d e f g i:Int} {a:Option Addr} {cap:Nat} {l:List Wr} {w:World} (j:qr w a cap l) (h:jt b c wall d e f g i l=v):
 Ca 252 #[.agg (List.toArray (T9 b c wall d e f g i a l.length cap))] w (Rn (.bool v) w):=by
 subst h;exact qux b c wall d e f g i a cap l w j
end
section
open Go.Maps
def jf (S:qe) (t:TxP):Int:=
 if okT t=false then 1 else if t.site=S.id then 1 else if t.seq<=qp t.site S.a0 S.a1 S.a2 S.a3 then 9 else if S.waits.any (λx=>vv x t)=true then 9 else if 200<=S.log.length then 12 else if 40<=S.waits.length/\qz S t=false then 12 else 0
def zu (S:qe) (t:TxP) (S':qe):Prop:=(jf S t≠0/\S'=S)\/(jf S t=0/\qfm {S with waits:=S.waits++[t]} S')
variable {S:qe} {t:TxP}
theorem zu.det {A B:qe} (h:zu S t A) (k:zu S t B):A=B:=by
 rcases h with ⟨a,rfl⟩|⟨a,d⟩
 ·rcases k with ⟨_,rfl⟩|⟨c,_⟩
  ·rfl
  exact absurd c a
 rcases k with ⟨c,_⟩|⟨_,e⟩
 ·exact absurd a c
 exact d.det e
theorem qf6 (h:jf S t=0):okT t=true/\t.site≠S.id/\¬t.seq<=qp t.site S.a0 S.a1 S.a2 S.a3/\(∀x∈S.waits,vv x t=false)/\S.log.length<200:=by
 unfold jf at h;split at h
 ·cases h
 rename_i a;split at h
 ·cases h
 rename_i c;split at h
 ·cases h
 rename_i d;split at h
 ·cases h
 rename_i e;split at h
 ·cases h
 rename_i g;refine⟨by simpa using a,c,d,λx f=>?_,by omega⟩;cases hi:vv x t with
 |false=>rfl
 |true=>exact absurd (List.any_eq_true.2 ⟨x,f,hi⟩) e
theorem zu.inv {S':qe} (h:zu S t S') (a:j3 S):j3 S':=by
 rcases h with ⟨_,rfl⟩|⟨c,d⟩
 ·exact a
 obtain⟨p1,p2,_,e,_⟩:=qf6 c;exact d.inv (a.wait p1 p2 e)
structure TkB (tb b bm:Nat) (ts:List Value) (w:World):Prop where
 t:qd w tb ts
 m:w.cell? (AD b 8)=some (.map (some bm))
variable {m:TxM}
theorem q6g {l:List TxM} {L:List TxP} {v:Bool} (c:l.map (·.t)=L) (d:qpl l t.site t.seq m v):L.any (λx=>vv x t)=v:=by
 cases v with
 |true=>
  obtain⟨a,f,g⟩:=d.yes rfl;rw[<-c];exact List.any_eq_true.2 ⟨m.t,jcz.2 ⟨m,a,rfl⟩,qe5.2 ⟨f,g⟩⟩
 |false=>
  obtain⟨_,a⟩:=d.no rfl;rw[<-c,List.any_eq_false];intro x h;obtain⟨y,i,rfl⟩:=jcz.1 h;exact λe=>a y i (qe5.1 e)
variable {b:Nat} {G:Nat->Prop}
theorem q7h {c g d:World} {lv:Value} {bm:Nat} {F:Nat->Prop} {log waits:List TxM} (l:zf c b lv bm F S log waits) (r:log.map (·.t)=S.log) (s:waits.map (·.t)=S.waits) (f:∀k,G k↔(jn b lv bm F k\/∃m∈log++waits,m.blk k))
 (n:Bw c g) (u:qr g m.wa m.wc m.t.ws) (o:∀k,m.blk k->c.heap.size<=k) (v:qd5 d bm (waits++[m])) (p:g.grownBy d (some bm)):
 ∃q,PS d b q {S with waits:=S.waits++[m.t]}/\(∀k,q k->G k\/c.heap.size<=k)/\qc G c d:=by
 have w:=l.later n
 have y:zf d b lv bm F {S with waits:=S.waits++[m.t]} log (waits++[m]):=(w.turn p v (λx h=>by
  rcases jcf.1 h with a|a
  ·exact .inl a
  rw[jcj.1 a];refine .inr ⟨u,λk e z=>?_⟩;have:=o k e;have:=l.lt k z
  omega)).waits _
 refine⟨_,⟨lv,bm,F,log,waits++[m],y,r,by rw[jdb,s];rfl,λk=>jdl⟩,λk A=>?_,?_⟩
 ·rcases A with a|⟨x,h,a⟩
  ·exact .inl ((f k).2 (.inl a))
  rcases jcf.1 h with i|i
  ·exact .inl ((f k).2 (.inr ⟨x,jcf.2 (.inl i),a⟩))
  rcases jcf.1 i with j|j
  ·exact .inl ((f k).2 (.inr ⟨x,jcf.2 (.inr j),a⟩))
  rw[jcj.1 j]at a;exact .inr (o k a)
 exact(qc.ofBelow n).trans (qc.grown p (λk e=>(f k).2 (.inl (.inr (.inr (.inl (by injection e with e;exact e.symm)))))))
theorem q0z (m:TxM) (w:World) (h:PS w b G S) (hI:j3 S) (hn:S.waits.length<=990) (hW:qr w m.wa m.wc m.t.ws):
 Ca 210 #[PP b,txV m] w λe w'=>e=.returned (jc (jf S m.t))/\∃S',zu S m.t S'/\PPo w b G S' w':=by
 obtain⟨⟨d,f,wall,g,i,j,l,n,ws⟩,a,cap⟩:=m;simp only at hW ⊢;have hb:=boxed (jcc _ w) (.cells (List.toArray (T9 d f wall g i j l n a ws.length cap)) 102);have H:=qd.new (w:=w) (T:=102) (T9 d f wall g i j l n a ws.length cap) rfl;change qd (w.nu (List.toArray (T9 d f wall g i j l n a ws.length cap)) 102) w.heap.size (T9 d f wall g i j l n a ws.length cap)at H;have hne:=qb.one;have P1:=h.later hb;have W1:=hW.later hb;have nG:¬G w.heap.size:=λe=>Nat.lt_irrefl _ (h.lt _ e)
 have NO:∀p ev,jf S ⟨d,f,wall,g,i,j,l,n,ws⟩=ev->ev≠0->Bw w p->Hid ((.returned (jc ev):Ending)=.returned (jc (jf S ⟨d,f,wall,g,i,j,l,n,ws⟩))/\∃S',zu S ⟨d,f,wall,g,i,j,l,n,ws⟩ S'/\PPo w b G S' p):=λp ev e1 e2 e3=>by
  show _/\_;rw[e1];exact⟨rfl,S,.inl ⟨by rw[e1];exact e2,rfl⟩,PPo.same h e3⟩
 have GO0:Hid (∀p G9 S',(∀k,G9 k->G k\/w.heap.size<=k)->qc G w p->∀w10,PPo p b G9 S' w10->PPo w b G S' w10):=λp G9 S' I N w10 z=>PPo.trans I N z;clear h hW;show Ca 210 #[PP b,.agg (List.toArray (T9 d f wall g i j l n a ws.length cap))] w _;obtain⟨lv,bm,F,log,waits,PM,hl,hw,hG⟩:=id P1;have k0:=qb.cell (PM.box.c 0);have t0:=qb.cell (H.c 0);have t1:=qb.cell (H.c 1);have t2:=qb.cell (H.c 2);have t3:=qb.cell (H.c 3);have t4:=qb.cell (H.c 4);have t5:=qb.cell (H.c 5);have t6:=qb.cell (H.c 6);have t7:=qb.cell (H.c 7);have t8:=qb.cell (H.c 8);cases hok:okT ⟨d,f,wall,g,i,j,l,n,ws⟩
 ·have HK:Hid (jt d f wall g i j l n ws=false):=hok
  have E:jf S ⟨d,f,wall,g,i,j,l,n,ws⟩=1:=by unfold jf;rw[if_pos hok]
  have J:=λp K=>NO p 1 E (by decide) K;clear E NO hok PM hl hw hG P1 hI;go_enter Tryz.func210,Tryz.ntmps210
  go_wp2_with fail
  refine wrl ?_
  repeat (go_big_quiet_step (first|rfl|(go_at_call 252;with_reducible exact qg (qex (W1.later (qb.below _)) HK.out))))
  refine wpQuiet_nil ?_;rintro w2 ⟨⟨_,O⟩,rfl⟩
  go_wp2_with fail
  go_ret;exact(J _ (qa hb O)).out
 have HK:Hid (jt d f wall g i j l n ws=true):=hok;obtain⟨⟨s0,s3⟩,⟨sq1,sq2⟩,sw⟩:=qcg hok;simp only at s0 s3 sq1 sq2 sw;have R:=hd1 hok;clear hok;by_cases V:d=S.id
 ·have E:jf S ⟨d,f,wall,g,i,j,l,n,ws⟩=1:=by unfold jf;rw[if_neg (by rw[R.out];decide),if_pos V]
  have J:=λp K=>NO p 1 E (by decide) K
  have i1:(d==S.id)=true:=by simp[V]
  have i2:decide (d=S.id)=true:=by simp[V]
  clear E NO PM hl hw hG P1 hI V;go_enter Tryz.func210,Tryz.ntmps210
  go_wp2_with fail
  refine wrl ?_
  repeat (go_big_quiet_step (first|rfl|(go_at_call 252;with_reducible exact qg (qex (W1.later (qb.below _)) HK.out))))
  refine wpQuiet_nil ?_;rintro w2 ⟨⟨_,O⟩,rfl⟩
  go_wp2_with fail
  go_ret;exact(J _ (qa hb O)).out
 have i1:(d==S.id)=false:=by simp[V]
 have i2:decide (d=S.id)=false:=by simp[V]
 have Y:=hd1 V;have q:=hd4 PM hl hw hG;have HI:=hd1 hI;have W:=hd1 NO;clear NO PM hl hw hG P1 hI V;go_enter Tryz.func210,Tryz.ntmps210
 go_wp2_with fail
 refine wrl ?_
 repeat (go_big_quiet_step (first|rfl|(go_at_call 252;with_reducible exact qg (qex (W1.later (qb.below _)) HK.out))))
 refine wpQuiet_nil ?_;rintro w2 ⟨⟨_,O⟩,rfl⟩;clear t0 t1 t2 t3 t4 t5 t6 t7 t8 k0;have PM2:=hd1 (q.out.1.later O);have RB2:=H.later O;have hbw:=qa hb O;have HBA2:Hid (Below (w.nu (List.toArray (T9 d f wall g i j l n a ws.length cap)) 102).heap.size (w.nu (List.toArray (T9 d f wall g i j l n a ws.length cap)) 102) w2):=O;have HNT:=hd1 nG;clear H hb O nG;have d8:=qb.cell (PM2.out.box.c 8);have t0:=qb.cell (RB2.c 0);have t1:=qb.cell (RB2.c 1);have ks:=qb.cell (PM2.out.box.cell _ _ (qmz s0 s3))
 have s4:d<4:=by omega
 obtain⟨D,hD⟩:∃D,qp d S.a0 S.a1 S.a2 S.a3=D:=⟨_,rfl⟩;have HD:=hd1 hD;rw[hD]at ks;clear hD;by_cases hle:f<=D
 ·have E:jf S ⟨d,f,wall,g,i,j,l,n,ws⟩=9:=by unfold jf;rw[if_neg (by rw[R.out];decide),if_neg Y.out,if_pos (by rw[HD.out];exact hle)]
  have J:=λp K=>W.out p 9 E (by decide) K;clear E W q HI
  go_wp2_with fail
  refine wrl ?_
  repeat (go_big_quiet_step (first|rfl|fail))
  refine wpQuiet_nil ?_;rintro w3 ⟨⟨_,P⟩,rfl⟩
  go_wp2_with fail
  go_ret;exact(J _ (qa hbw P)).out
 obtain⟨mx,v,hL⟩:=q0t waits d f;have wfs:wfI d:=⟨by omega,by omega⟩;have wfq:wfI f:=⟨by omega,by omega⟩;have HAS:Hid (∀x:qb w2,Ca 253 #[.map (some bm),U d,U f] x.val λe w'=>e=.returned (.bool v)/\Below x.val.heap.size x.val w'):=λx=>jac hL wfs wfq x.val (PM2.out.later x.below).map;have HAN:=hd1 (q6g (t:=⟨d,f,wall,g,i,j,l,n,ws⟩) q.out.2.2.1 hL);have HLE:=hd1 hle;have q1:=decide_eq_false hle;cases v
 rotate_left
 ·have E:jf S ⟨d,f,wall,g,i,j,l,n,ws⟩=9:=by unfold jf;rw[if_neg (by rw[R.out];decide),if_neg Y.out,if_neg (by rw[HD.out];have:=HLE.out;simp only;omega),if_pos HAN.out]
  have J:=λp K=>W.out p 9 E (by decide) K;clear E W q HI hL
  go_wp2_with fail
  refine wrl ?_
  repeat (go_big_quiet_step (first|rfl|(go_at_call 253;with_reducible exact qg (HAS.out _))))
  refine wpQuiet_nil ?_;rintro w3 ⟨⟨_,P⟩,rfl⟩
  go_wp2_with fail
  go_ret;exact(J _ (qa hbw P)).out
 have HNM:Hid (∀x∈waits,vv x.t ⟨d,f,wall,g,i,j,l,n,ws⟩=false):=λx hx=>by
  cases hi:vv x.t ⟨d,f,wall,g,i,j,l,n,ws⟩with
  |false=>rfl
  |true=>exact absurd (qe5.1 hi) ((hL.no rfl).2 x hx)
 clear hL
 go_wp2_with fail
 refine wrl ?_
 repeat (go_big_quiet_step (first|rfl|(go_at_call 253;with_reducible exact qg (HAS.out _))))
 refine wpQuiet_nil ?_;rintro w3 ⟨⟨_,P⟩,rfl⟩;have PM3:=hd1 (PM2.out.later P);have RB3:=RB2.later P;have hbw3:=qa hbw P;have HBA:=hd1 (qa HBA2.out P);clear RB2 hbw P HAS hle t0 t1 ks d8
 have hll:log.length=S.log.length:=by rw[<-q.out.2.1];simp
 have hwl:waits.length=S.waits.length:=by rw[<-q.out.2.2.1];simp
 by_cases hf:200<=log.length
 ·have E:jf S ⟨d,f,wall,g,i,j,l,n,ws⟩=12:=by unfold jf;rw[if_neg (by rw[R.out];decide),if_neg Y.out,if_neg (by rw[HD.out];have:=HLE.out;simp only;omega),if_neg (by rw[HAN.out];decide),if_pos (by omega)]
  have J:=λp K=>W.out p 12 E (by decide) K;have IF:=qe0 (decide_eq_true hf) w3 PM3.out;clear E W q HI hf hll hwl
  go_wp2_with fail
  refine IF.mono ?_;rintro e B ⟨rfl,Z⟩
  go_wp2_with fail
  go_ret;exact(J _ (qa hbw3 Z)).out
 have IF:=qe0 (decide_eq_false hf) w3 PM3.out
 have HF:Hid (S.log.length<200):=by show _<_;omega
 have HWL:=hd2 hwl hn;clear hf hll
 go_wp2_with fail
 refine IF.mono ?_;rintro e B ⟨rfl,Z⟩;have X:=hd1 (PM3.out.later Z);have C:=RB3.later Z;have hbw4:=qa hbw3 Z;have HW4:=hd1 (qa HBA.out Z);clear RB3 hbw3 Z;have d8:=X.out.box.c 8;obtain⟨hM1,hM2,DD,hown,hMI⟩:=id X.out.map
 have LEN:∀ty,(Builtin.len_ #[214] ty #[.map (some bm)]).run Tryz.prog B=.ok (U waits.length) B:=λty=>by
  have:=hown.len Tryz.underlying214 ty;rw[hMI.size]at this;exact this
 clear hM1 hM2 hown hMI;have t0:=(C.c 0);have t1:=(C.c 1);have t2:=(C.c 2);have t3:=(C.c 3);have t4:=(C.c 4);have t5:=(C.c 5);have t6:=(C.c 6);have t7:=(C.c 7);have t8:=(C.c 8);by_cases h40:40<=waits.length
 have g40:(40:Int)<=(waits.length:Int):=by omega
 obtain⟨r,hr⟩:∃r,qz S ⟨d,f,wall,g,i,j,l,n,ws⟩=r:=⟨_,rfl⟩;have RD:=qnn (v:=r) ⟨⟨d,f,wall,g,i,j,l,n,ws⟩,a,cap⟩ B X.out s0 s3 (HI.out.dep _) hr;simp only[txV]at RD;have HR:=hd1 hr;clear hr;cases r
 ·have E:jf S ⟨d,f,wall,g,i,j,l,n,ws⟩=12:=by unfold jf;rw[if_neg (by rw[R.out];decide),if_neg Y.out,if_neg (by rw[HD.out];have:=HLE.out;simp only;omega),if_neg (by rw[HAN.out];decide),if_neg (by have:=HF.out;omega),if_pos ⟨by have:=HWL.out;omega,HR.out⟩]
  have J:=λp K=>W.out p 12 E (by decide) K;clear E W q HI
  go_wp2_with fail
  refine RD.mono ?_;rintro e M ⟨rfl,aa⟩
  go_wp2_with fail
  go_ret;exact(J _ (qa hbw4 aa)).out
 have E0:Hid (jf S ⟨d,f,wall,g,i,j,l,n,ws⟩=0):=by show _=_;unfold jf;rw[if_neg (by rw[R.out];decide),if_neg Y.out,if_neg (by rw[HD.out];have:=HLE.out;simp only;omega),if_neg (by rw[HAN.out];decide),if_neg (by have:=HF.out;omega),if_neg (λe=>by rw[HR.out]at e;cases e.2)]
 go_wp2_with fail
 refine RD.mono ?_;rintro e M ⟨rfl,aa⟩;have PM5:=hd1 (X.out.later aa);have RB5:=C.later aa;have hbw5:=qa hbw4 aa;have HW5:=hd1 (qa HW4.out aa);clear aa;have hbW:=HW5.out;have HTB:Hid (∀w',qd5 w' bm (waits++[⟨⟨d,f,wall,g,i,j,l,n,ws⟩,none,0⟩])->True):=λ_ _=>trivial;have SB:TkB w.heap.size b bm (T9 d f wall g i j l n a ws.length cap) M.drew:=⟨RB5.drew,PM5.out.box.c 8⟩
 have CP:Hid (Ca 245 #[.agg (List.toArray (T9 d f wall g i j l n a ws.length cap))] M.drew λe w'=>(∃a2 o,e=.returned (.agg (List.toArray (T9 d f wall g i j l n a2 ws.length o)))/\Hid (qr w' a2 o ws/\(∀k,(⟨⟨d,f,wall,g,i,j,l,n,ws⟩,a2,o⟩:TxM).blk k->M.heap.size<=k)))/\TkB w.heap.size b bm (T9 d f wall g i j l n a ws.length cap) w'/\Bw M w'):=
  (qgq ⟨⟨d,f,wall,g,i,j,l,n,ws⟩,a,cap⟩ M.drew (W1.later (hbW.trans (jcc _ M).drew)) sw.1 (by have:=sw.2;simp only;omega)).mono λe w' ⟨m2,I,N,z,h4,h5⟩=>by
   obtain⟨t2,a2,o⟩:=m2;simp only at I;subst I;have s:=qa (jcc _ M).drew h5;exact⟨⟨a2,o,N,z,h4⟩,⟨RB5.later s,(PM5.out.later s).box.c 8⟩,s⟩
 have PU:Hid (∀a2 o u,(qr u a2 o ws/\(∀k,(⟨⟨d,f,wall,g,i,j,l,n,ws⟩,a2,o⟩:TxM).blk k->M.heap.size<=k))->Bw M u->Ca 255 #[.map (some bm),.agg (List.toArray (T9 d f wall g i j l n a2 ws.length o))] u λe w'=>e=.returned (.tuple #[])/\TkB w.heap.size b bm (T9 d f wall g i j l n a ws.length cap) w'/\Hid (∃L,PS w' b L {S with waits:=S.waits++[⟨d,f,wall,g,i,j,l,n,ws⟩]}/\(∀k,L k->G k\/w.heap.size<=k)/\qc G w w')):=λa2 o u hh s=>by
  have Q:=PM5.out.later s;have R6:=RB5.later s;refine(q0o ⟨⟨d,f,wall,g,i,j,l,n,ws⟩,a2,o⟩ u Q.map ⟨⟨by simp only;omega,by simp only;omega⟩,⟨by simp only;omega,by simp only;omega⟩⟩ HNM.out (by have:=HWL.out;omega)).mono λe w' ⟨I,N,z⟩=>⟨I,⟨R6.grown z (λe=>?_),?_⟩,?_⟩
  ·injection e with e;exact HNT.out (by rw[e];exact(q.out.2.2.2 bm).2 (.inl (.inr (.inr (.inl rfl)))))
  ·rw[jch (w:=u) (z.block b Q.box.lt (λe=>Q.nm (by injection e with e;exact e.symm)))];exact Q.box.c 8
  obtain⟨L,g1,g2,g3⟩:=q7h PM5.out q.out.2.1 q.out.2.2.1 q.out.2.2.2 s hh.1 hh.2 N z;exact⟨L,g1,λk hk=>(g2 k hk).imp id (λe=>by have:=hbw5.size;omega),(qc.ofBelow hbw5).more g3 (λk hk=>.inl hk)⟩
 rotate_left
 have g40:¬(40:Int)<=(waits.length:Int):=by omega
 have E0:Hid (jf S ⟨d,f,wall,g,i,j,l,n,ws⟩=0):=by show _=_;unfold jf;rw[if_neg (by rw[R.out];decide),if_neg Y.out,if_neg (by rw[HD.out];have:=HLE.out;simp only;omega),if_neg (by rw[HAN.out];decide),if_neg (by have:=HF.out;omega),if_neg (λe=>by have:=HWL.out;omega)]
 go_wp2_with fail
 have hbW:=HW4.out;have HTB:Hid (∀w',qd5 w' bm (waits++[⟨⟨d,f,wall,g,i,j,l,n,ws⟩,none,0⟩])->True):=λ_ _=>trivial;have SB:TkB w.heap.size b bm (T9 d f wall g i j l n a ws.length cap) B.drew:=⟨C.drew,X.out.box.c 8⟩
 have CP:Hid (Ca 245 #[.agg (List.toArray (T9 d f wall g i j l n a ws.length cap))] B.drew λe w'=>(∃a2 o,e=.returned (.agg (List.toArray (T9 d f wall g i j l n a2 ws.length o)))/\Hid (qr w' a2 o ws/\(∀k,(⟨⟨d,f,wall,g,i,j,l,n,ws⟩,a2,o⟩:TxM).blk k->B.heap.size<=k)))/\TkB w.heap.size b bm (T9 d f wall g i j l n a ws.length cap) w'/\Bw B w'):=
  (qgq ⟨⟨d,f,wall,g,i,j,l,n,ws⟩,a,cap⟩ B.drew (W1.later (hbW.trans (jcc _ B).drew)) sw.1 (by have:=sw.2;simp only;omega)).mono λe w' ⟨m2,I,N,z,h4,h5⟩=>by
   obtain⟨t2,a2,o⟩:=m2;simp only at I;subst I;have s:=qa (jcc _ B).drew h5;exact⟨⟨a2,o,N,z,h4⟩,⟨C.later s,(X.out.later s).box.c 8⟩,s⟩
 have PU:Hid (∀a2 o u,(qr u a2 o ws/\(∀k,(⟨⟨d,f,wall,g,i,j,l,n,ws⟩,a2,o⟩:TxM).blk k->B.heap.size<=k))->Bw B u->Ca 255 #[.map (some bm),.agg (List.toArray (T9 d f wall g i j l n a2 ws.length o))] u λe w'=>e=.returned (.tuple #[])/\TkB w.heap.size b bm (T9 d f wall g i j l n a ws.length cap) w'/\Hid (∃L,PS w' b L {S with waits:=S.waits++[⟨d,f,wall,g,i,j,l,n,ws⟩]}/\(∀k,L k->G k\/w.heap.size<=k)/\qc G w w')):=λa2 o u hh s=>by
  have Q:=X.out.later s;have R6:=C.later s;refine(q0o ⟨⟨d,f,wall,g,i,j,l,n,ws⟩,a2,o⟩ u Q.map ⟨⟨by simp only;omega,by simp only;omega⟩,⟨by simp only;omega,by simp only;omega⟩⟩ HNM.out (by have:=HWL.out;omega)).mono λe w' ⟨I,N,z⟩=>⟨I,⟨R6.grown z (λe=>?_),?_⟩,?_⟩
  ·injection e with e;exact HNT.out (by rw[e];exact(q.out.2.2.2 bm).2 (.inl (.inr (.inr (.inl rfl)))))
  ·rw[jch (w:=u) (z.block b Q.box.lt (λe=>Q.nm (by injection e with e;exact e.symm)))];exact Q.box.c 8
  obtain⟨L,g1,g2,g3⟩:=q7h X.out q.out.2.1 q.out.2.2.1 q.out.2.2.2 s hh.1 hh.2 N z;exact⟨L,g1,λk hk=>(g2 k hk).imp id (λe=>by have:=hbw4.size;omega),(qc.ofBelow hbw4).more g3 (λk hk=>.inl hk)⟩
 all_goals
  have T0:=λ(w':World) (h:TkB w.heap.size b bm (T9 d f wall g i j l n a ws.length cap) w')=>h.t.c 0;have T1:=λ(w':World) (h:TkB w.heap.size b bm (T9 d f wall g i j l n a ws.length cap) w')=>h.t.c 1;have T2:=λ(w':World) (h:TkB w.heap.size b bm (T9 d f wall g i j l n a ws.length cap) w')=>h.t.c 2;have T3:=λ(w':World) (h:TkB w.heap.size b bm (T9 d f wall g i j l n a ws.length cap) w')=>h.t.c 3;have T4:=λ(w':World) (h:TkB w.heap.size b bm (T9 d f wall g i j l n a ws.length cap) w')=>h.t.c 4;have T5:=λ(w':World) (h:TkB w.heap.size b bm (T9 d f wall g i j l n a ws.length cap) w')=>h.t.c 5;have T6:=λ(w':World) (h:TkB w.heap.size b bm (T9 d f wall g i j l n a ws.length cap) w')=>h.t.c 6;have T7:=λ(w':World) (h:TkB w.heap.size b bm (T9 d f wall g i j l n a ws.length cap) w')=>h.t.c 7;have T8:=λ(w':World) (h:TkB w.heap.size b bm (T9 d f wall g i j l n a ws.length cap) w')=>h.t.c 8;have TM:=λ(w':World) (h:TkB w.heap.size b bm (T9 d f wall g i j l n a ws.length cap) w')=>h.m;clear HTB t0 t1 t2 t3 t4 t5 t6 t7 t8 d8 LEN
  go_wp2_with fail
  go_region_held3 (λw'=>TkB w.heap.size b bm (T9 d f wall g i j l n a ws.length cap) w') (with_reducible assumption)
   (first
        |(go_at_call 245;with_reducible refine CP.out.mono ?_;rintro e u ⟨⟨a2,o,rfl,HC6⟩,N6,hb6⟩)
        |(go_at_call 255;with_reducible refine(PU.out a2 o _ HC6.out hb6).mono ?_;rintro e w7 ⟨rfl,N7,HP7⟩))
  all_goals
   clear T0 T1 T2 T3 T4 T5 T6 T7 T8 TM;obtain⟨L,q1,q2,q3⟩:=HP7.out;have AR:=qqg w7 q1 (HI.out.wait R.out Y.out (λx hx=>by rw[<-q.out.2.2.1]at hx;obtain⟨y,hy,rfl⟩:=jcz.1 hx;exact HNM.out y hy)) (by have:=HWL.out;simp;omega);have HGO:=hd1 (λS' w' hp=>GO0.out w7 L S' q2 q3 w' hp);clear q1 q2 q3
   go_wp2_with fail
   refine AR.mono ?_;rintro e w8 ⟨rfl,S',hgo,hp⟩;have HF9:Hid (∃S',zu S ⟨d,f,wall,g,i,j,l,n,ws⟩ S'/\PPo w b G S' w8):=⟨S',.inr ⟨E0.out,hgo⟩,HGO.out S' w8 hp⟩;clear hgo hp
   go_wp2_with fail
   go_ret;refine⟨?_,HF9.out⟩;rw[E0.out];rfl
end
section
theorem q62 {lw lc now x y e:Int} (h:qcp lw lc now=(x,y,e)) (w:World):
 Ca 243 #[.agg #[U lw,U lc],U now] w (Rn (.tuple #[.agg #[U x,U y],jc e]) w):=by
 unfold qcp at h;split at h
 ·rename_i g;injection h with h1 h2;injection h2 with h2 h3;subst h1 h2 h3;exact qv7 lw lc now w g
 rename_i g
 have g':(qi lw&&qi lc)=true:=by simpa using g
 have f:0<=lc/\lc<=1099511627776:=by
  have i:=g';simp[qi]at i;omega
 split at h
 ·rename_i c;injection h with h1 h2;injection h2 with h2 h3;subst h1 h2 h3;exact quj lw lc now w g' c
 rename_i c
 have d:qi now=true:=by simpa using c
 split at h
 ·rename_i a;injection h with h1 h2;injection h2 with h2 h3;subst h1 h2 h3;exact q2c lw lc now w g' d a
 rename_i a;split at h
 ·rename_i j;injection h with h1 h2;injection h2 with h2 h3;subst h1 h2 h3;exact q1l lw lc now w g' d a (by simp;omega)
 rename_i j;injection h with h1 h2;injection h2 with h2 h3;subst h1 h2 h3;exact qzl lw lc now w g' d a (by simp;omega) f.1 (by omega)
def qfl (S:qe) (now d0 d1 d2 d3:Int) (ws:List Wr):Int:=ji S S.log.length now d0 d1 d2 d3 ws
def qha (S:qe) (now d0 d1 d2 d3:Int) (ws:List Wr):TxP:=if qfl S now d0 d1 d2 d3 ws=0 then zv S now d0 d1 d2 d3 ws else ⟨0,0,0,0,0,0,0,0,[]⟩
def qf3 (S:qe) (now d0 d1 d2 d3:Int) (ws:List Wr):qe:=if qfl S now d0 d1 d2 d3 ws=0 then vr S (zv S now d0 d1 d2 d3 ws)else S
def qsw (w:World) (b:Nat) (G:Nat->Prop) (S:qe) (now d0 d1 d2 d3:Int) (ws:List Wr) (e:Ending) (w':World):Prop:=
 ∃(m:TxM) (G':Nat->Prop),e=.returned (.tuple #[txV m,jc (qfl S now d0 d1 d2 d3 ws)])/\m.t=qha S now d0 d1 d2 d3 ws/\Hid (qr w' m.wa m.wc m.t.ws/\PS w' b G' (qf3 S now d0 d1 d2 d3 ws)/\(∀k,G' k->G k\/w.heap.size<=k)/\qc G w w'/\∀k,m.blk k->w.heap.size<=k/\¬G' k)
variable {w:World} {b:Nat}
theorem qba {tmps:Array Value} {m:TxM} {ev:Value} (h:qd w b (txC m)) (a:tmps[8]?=some (PP b)) (c:tmps[9]?=some ev):
 (results Tryz.f206 tmps).run Tryz.prog w=.ok (.tuple #[txV m,ev]) w:=by
 obtain⟨d,e,f,g,i,j,k,l,n⟩:=h.c9;simp[results,Tryz.results206,go_sem,a,c,d,e,f,g,i,j,k,l,n,txV]
variable {S:qe} {d0 d1 d2 d3:Int} {ws:List Wr}
theorem qpk {now:Int} (a:j3 S) (h:qfl S now d0 d1 d2 d3 ws=0):j3 (vr S (zv S now d0 d1 d2 d3 ws))/\1<=ws.length/\ws.length<=5/\S.log.length<200:=by
 obtain⟨d,f,g,i,j⟩:=qip h
 have c:1<=ws.length/\ws.length<=5:=by
  simp only[qad,jct,jk]at d;omega
 have k:=a.own;have e:=a.dep S.id;refine⟨a.applied ⟨a.id0,a.id3⟩ ⟨?_,?_⟩ c (λ_=>?_) (by omega),c.1,c.2,by omega⟩
 ·show 0<=qp S.id _ _ _ _+1;have:=e.1;omega
 ·show qp S.id _ _ _ _+1<=_;omega
 show qp S.id _ _ _ _+1<=_;omega
variable {F:Nat->Prop} {W:World}
theorem qbl {p:Addr} (h:qc F w W) (d:w.heap.size<=p.block) (v:Value):qc F w (W.setCell p v):=
 ⟨h.os,h.tape,h.output,by simpa[World.setCell]using h.size,λk a c=>(jce _ _ _ _ (by omega)).trans (h.block k a c)⟩
theorem qwv (h:qc F w W) (a:w.heap.size<=b) (x0 x1 x2 x3 c d e f:Int) (v:Value):qc F w (js W b x0 x1 x2 x3 c d e f v):=
 qbl (qbl (qbl (qbl (qbl (qbl (qbl (qbl (qbl h a _) a _) a _) a _) a _) a _) a _) a _) a _
theorem qzm {s o i:World} {lv p:Value} {bm:Nat} {F' G:Nat->Prop} {log waits:List TxM} {now:Int} {x0 x1 x2 x3 a c d f:Int} {u wa2:Option Addr} {v wc2:Nat} (L:PS w b G S) (M:Bw w s) (X:w.heap.size+1<s.heap.size)
 (B:zf o b p bm F' (vr S ⟨x0,x1,x2,x3,a,c,d,f,ws⟩) (log++[⟨⟨x0,x1,x2,x3,a,c,d,f,ws⟩,u,v⟩]) waits) (C:∀k,jn b p bm F' k->jn b lv bm F k\/s.heap.size<=k) (r:qc (jn b lv bm F) s o)
 (D:∀k,(⟨⟨x0,x1,x2,x3,a,c,d,f,ws⟩,u,v⟩:TxM).blk k->w.heap.size+1<k) (E:log.map (·.t)=S.log) (H:waits.map (·.t)=S.waits) (l:∀k,G k↔(jn b lv bm F k\/∃m∈log++waits,m.blk k)) (I:Bw o i)
 (N:qr i wa2 wc2 ws) (x:∀k,(⟨⟨x0,x1,x2,x3,a,c,d,f,ws⟩,wa2,wc2⟩:TxM).blk k->w.heap.size+1<k/\o.heap.size<=k) (J:zv S now d0 d1 d2 d3 ws=⟨x0,x1,x2,x3,a,c,d,f,ws⟩) (y:qfl S now d0 d1 d2 d3 ws=0):
 Hid (qsw w b G S now d0 d1 d2 d3 ws (.returned (.tuple #[txV ⟨⟨x0,x1,x2,x3,a,c,d,f,ws⟩,wa2,wc2⟩,.nilIface])) (js i (w.heap.size+1) x0 x1 x2 x3 a c d f (.slice wa2 ws.length wc2))):=by
 have O:=((qc.ofBelow M).more ⟨r.os,r.tape,r.output,r.size,λk j P=>r.block k j (λe=>P ((l k).2 (.inl e)))⟩ (λk j=>.inl j)).trans (qc.ofBelow I);have K:∀k,k≠w.heap.size+1->(js i (w.heap.size+1) x0 x1 x2 x3 a c d f (.slice wa2 ws.length wc2)).heap[k]?=i.heap[k]?:=λk j=>qco j x0 x1 x2 x3 a c d f _
 have Y:(js i (w.heap.size+1) x0 x1 x2 x3 a c d f (.slice wa2 ws.length wc2)).heap.size=i.heap.size:=by simp only[js,World.setCell,Array.size_modify]
 have Q:qc G w (js i (w.heap.size+1) x0 x1 x2 x3 a c d f (.slice wa2 ws.length wc2)):=qwv O (Nat.le_succ _) _ _ _ _ _ _ _ _ _
 generalize js i (w.heap.size+1) x0 x1 x2 x3 a c d f (.slice wa2 ws.length wc2)=W at*
 have R:=B.later I;have z:=L.lt
 have T:PS W b (λk=>jn b p bm F' k\/∃m∈(log++[⟨⟨x0,x1,x2,x3,a,c,d,f,ws⟩,u,v⟩])++waits,m.blk k) (vr S ⟨x0,x1,x2,x3,a,c,d,f,ws⟩):=by
  refine⟨p,bm,F',_,waits,R.kept (λk j=>K k (λe=>?_)) (by omega),by rw[jdb,E];rfl,H,λk=>jdl⟩;rcases j with g|⟨m,A,g⟩
  ·rcases C k g with h|h
   ·have:=z k ((l k).2 (.inl h));omega
   omega
  rcases jcf.1 A with h|h
  ·rcases jcf.1 h with n|n
   ·have:=z k ((l k).2 (.inr ⟨m,jcf.2 (.inl n),g⟩));omega
   rw[jcj.1 n]at g;have:=D k g;omega
  have:=z k ((l k).2 (.inr ⟨m,jcf.2 (.inr h),g⟩));omega
 have V:=PS.lt (w:=o) (b:=b) (S:=vr S ⟨x0,x1,x2,x3,a,c,d,f,ws⟩) ⟨p,bm,F',_,waits,B,by rw[jdb,E];rfl,H,λk=>jdl⟩;refine⟨⟨⟨x0,x1,x2,x3,a,c,d,f,ws⟩,wa2,wc2⟩,_,by rw[y];rfl,?_,qr.kept (m:=⟨⟨x0,x1,x2,x3,a,c,d,f,ws⟩,wa2,wc2⟩) (w:=i) N (λk e=>K k (by have:=(x k e).1;omega)),by unfold qf3;rw[if_pos y,J];exact T,λk j=>?_,Q,λk e=>⟨by have:=(x k e).1;omega,λq=>by have:=V k q;have:=(x k e).2;omega⟩⟩
 ·unfold qha;rw[if_pos y,J]
 rcases j with g|⟨m,A,g⟩
 ·rcases C k g with h|h
  ·exact .inl ((l k).2 (.inl h))
  exact .inr (by omega)
 rcases jcf.1 A with h|h
 ·rcases jcf.1 h with n|n
  ·exact .inl ((l k).2 (.inr ⟨m,jcf.2 (.inl n),g⟩))
  rw[jcj.1 n]at g;have:=D k g;exact .inr (by omega)
 exact .inl ((l k).2 (.inr ⟨m,jcf.2 (.inr h),g⟩))
end
def cnt (H:List TxP) (s:Int):Nat:=H.countP (λx=>decide (x.site=s))
def qoz (S:qe) (s:Int):Int:=qp s S.a0 S.a1 S.a2 S.a3
theorem qyy {S:qe} (h:qd7 S=none):∀x∈S.waits,0<=x.site->x.site<=3->qz S x=false:=by
 have a:qbt S 0=none/\qbt S 1=none/\qbt S 2=none/\qbt S 3=none:=by
  unfold qd7 at h;split at h
  ·cases h
  rename_i p0;split at h
  ·cases h
  rename_i p1;split at h
  ·cases h
  rename_i p2;exact⟨p0,p1,p2,h⟩
 intro x b d f
 have c:x.site=0\/x.site=1\/x.site=2\/x.site=3:=by omega
 rcases c with e|e|e|e
 ·exact qgg a.1 x b e
 ·exact qgg a.2.1 x b e
 ·exact qgg a.2.2.1 x b e
 exact qgg a.2.2.2 x b e
theorem q43 {lw lc now:Int} (h:(qcp lw lc now).2.2=0):qi (qcp lw lc now).1=true/\qi (qcp lw lc now).2.1=true/\qdr lw lc (qcp lw lc now).1 (qcp lw lc now).2.1<0:=by
 unfold qcp at h ⊢;split
 ·rename_i g;rw[if_pos g]at h;cases h
 rename_i g;rw[if_neg g]at h
 have g':(qi lw&&qi lc)=true:=by simpa using g
 rw[jct,qdz,qdz]at g';split
 ·rename_i b;rw[if_pos b]at h;cases h
 rename_i b;rw[if_neg b]at h
 have f:qi now=true:=by simpa using b
 split
 ·rename_i c;show qi now=true/\qi 0=true/\qdr lw lc now 0<0;refine⟨f,qf7 (by decide) (by decide),?_⟩
  rcases qcw lw lc now 0 with ⟨a,e⟩|⟨a,e⟩|⟨a,e⟩<;>simp only[e]<;>omega
 rename_i c;rw[if_neg c]at h;split
 ·rename_i d;rw[if_pos d]at h;cases h
 rename_i d;show qi lw=true/\qi (lc+1)=true/\qdr lw lc lw (lc+1)<0;refine⟨qf7 g'.1.1 g'.1.2,qf7 (by omega) (by omega),?_⟩
 rcases qcw lw lc lw (lc+1)with ⟨a,e⟩|⟨a,e⟩|⟨a,e⟩<;>simp only[e]<;>omega
theorem q3w (i q a b c d s:Int) (f:0<=s) (g:s<=3):qp s (qch i q a) (qcl i q b) (qck i q c) (qcj i q d)=if s=i then q else qp s a b c d:=by
 have e:s=0\/s=1\/s=2\/s=3:=by omega
 rcases e with rfl|rfl|rfl|rfl<;>simp[qp,qch,qcl,qck,qcj,eq_comm]
theorem qfm.log {S S':qe} (h:qfm S S'):(∀x∈S.log,x∈S'.log)/\S'.waits.length<=S.waits.length:=by
 induction h with
 |full _=>exact⟨λ_ h=>h,jcd _⟩
 |none _=>exact⟨λ_ h=>h,jcd _⟩
 |step _ _ _ ih=>exact⟨λx a=>ih.1 x (jcf.2 (.inl a)),jcn ih.2 (jdo _ _)⟩
structure qy where
 p0:Int
 p1:Int
 p2:Int
 p3:Int
 opn:Bool
 s0:Int
 s1:Int
 s2:Int
 s3:Int
 ws:List Wr
def qez:qy:=⟨0,0,0,0,false,0,0,0,0,[]⟩
def qay (l:List Wr) (key:Int):Option Wr:=l.reverse.find? (λx=>decide (x.key=key))
theorem qmt (l:List Wr) (x:Wr) (key:Int):qay (l++[x]) key=if x.key=key then some x else qay l key:=by
 unfold qay;rw[List.reverse_append];by_cases h:x.key=key
 ·simp[h]
 simp[h]
theorem q5a {l:List Wr} {key:Int} {x:Wr} (h:qay l key=some x):x.key=key/\x∈l:=by
 unfold qay at h;have a:=List.find?_some h;have b:=List.mem_of_find?_eq_some h;exact⟨by simpa using a,by simpa using b⟩
def jh (l:List Wr):List Wr:=(List.range 8).filterMap (λ(k:Nat)=>qay l (k:Int))
def qak (l:List Wr) (k:Nat):List Wr:=(List.range k).filterMap (λ(k:Nat)=>qay l (k:Int))
theorem qim (l:List Wr) (k:Nat):qak l (k+1)=qak l k++(match qay l (k:Int)with|some x=>[x]|none=>[]):=by
 unfold qak;rw[List.range_succ,List.filterMap_append]
 cases h:qay l (k:Int)<;>simp[h]
theorem qkg (l:List Wr) (k:Nat):(qak l k).length<=k:=by
 unfold qak;have:=List.length_filterMap_le (λ(k:Nat)=>qay l (k:Int)) (List.range k);simpa using this
theorem qqj (l:List Wr) (x:Wr) (k:Nat) (c:0<=x.key):(qak (l++[x]) k).length=(qak l k).length+if x.key<k/\qay l x.key=none then 1 else 0:=by
 induction k with
 |zero=>simp[qak];omega
 |succ k ih=>
  rw[qim,qim,jcl,jcl,ih,qmt];by_cases h:x.key=(k:Int)
  ·rw[if_pos h,h];cases ho:qay l (k:Int)with
   |none=>
    rw[if_neg (by omega),if_pos ⟨by omega,rfl⟩];simp
   |some y=>
    rw[if_neg (by omega),if_neg (by simp)];simp
  rw[if_neg h]
  have e:(x.key<(k:Int)/\qay l x.key=none)↔(x.key<((k+1:Nat):Int)/\qay l x.key=none):=by
   constructor
   ·rintro ⟨a,b⟩;exact⟨by omega,b⟩
   rintro ⟨a,b⟩;exact⟨by omega,b⟩
  by_cases g:x.key<(k:Int)/\qay l x.key=none
  ·rw[if_pos g,if_pos (e.1 g)];omega
  rw[if_neg g,if_neg (λh=>g (e.2 h))];omega
def qhl (S:qe) (s:qy):Int:=if s.opn=true then 6 else if qa8 S.a0 S.a1 S.a2 S.a3 s.p0 s.p1 s.p2 s.p3=false then 10 else 0
def qhd (S:qe) (s:qy):qy:=if qhl S s=0 then {s with opn:=true,s0:=S.a0,s1:=S.a1,s2:=S.a2,s3:=S.a3,ws:=[]}else s
def vi (S:qe) (s:qy) (key:Int):ByteArray×Int:=
 if s.opn=false then (⟨#[]⟩,6)else match qay s.ws key with
    |some x=>if x.gone=true then (⟨#[]⟩,8)else (x.data,0)
    |none=>((qbq S key s.s0 s.s1 s.s2 s.s3).1.data,(qbq S key s.s0 s.s1 s.s2 s.s3).2)
def qaj (s:qy) (x:Wr):Int:=
 if s.opn=false then 6 else if x.key<0\/8<=x.key then 2 else if 12<x.data.size then 4 else if x.gone=true/\x.data.size≠0 then 1 else if qay s.ws x.key=none/\5<=(jh s.ws).length then 12 else 0
def qd2 (s:qy) (x:Wr):qy:=if qaj s x=0 then {s with ws:=s.ws++[x]}else s
def qc3 (s:qy):qy:=⟨jd s.p0 s.s0,jd s.p1 s.s1,jd s.p2 s.s2,jd s.p3 s.s3,false,0,0,0,0,[]⟩
def qi5 (s:qy):Int:=if s.opn=false then 6 else 0
def qhh (s:qy):qy:=if s.opn=false then s else qc3 s
def qeg (S:qe) (s:qy) (now:Int):Int:=if s.opn=false then 6 else if (jh s.ws).length=0 then 0 else qfl S now s.s0 s.s1 s.s2 s.s3 (jh s.ws)
def qce (S:qe) (s:qy) (now:Int):TxP:=if s.opn=false\/(jh s.ws).length=0 then ⟨0,0,0,0,0,0,0,0,[]⟩else qha S now s.s0 s.s1 s.s2 s.s3 (jh s.ws)
def atLeast (site seq:Int) (s:qy):qy:={s with p0:=if site=0 then jd s.p0 seq else s.p0,p1:=if site=1 then jd s.p1 seq else s.p1,p2:=if site=2 then jd s.p2 seq else s.p2,p3:=if site=3 then jd s.p3 seq else s.p3}
def j0 (S:qe) (s:qy) (now:Int):qy:=if qeg S s now≠0 then s else if (jh s.ws).length=0 then qc3 s else atLeast (qce S s now).site (qce S s now).seq (qc3 s)
def qcc (S:qe) (s:qy) (now:Int):qe:=if s.opn=false\/(jh s.ws).length=0 then S else qf3 S now s.s0 s.s1 s.s2 s.s3 (jh s.ws)
theorem j3.scom {S:qe} {s:qy} {now:Int} (h:j3 S):j3 (qcc S s now):=by
 unfold qcc qf3;split
 ·exact h
 split
 ·rename_i g;exact(qpk h g).1
 exact h
def q8s (w:World) (L:List TxM) (v:Value) (w':World):Prop:=∃kept:List TxM,L.map (·.t)=kept.map (·.t)/\(∃B,w.heap.size<=B/\w'.ownsRow B 102 9 v kept.length (zw kept))/\(∀m∈kept,qr w' m.wa m.wc m.t.ws/\∀j,m.blk j->w.heap.size<=j)/\Bw w w'
theorem qt1 {b:Nat} {lv:Value} {bm:Nat} {F:Nat->Prop} {S:qe} {log waits:List TxM} (B a C D:Int) (w:World) (h:zf w b lv bm F S log waits) (hs:∀m∈log,(0<=m.t.site/\m.t.site<=3)/\1<=m.t.ws.length/\m.t.ws.length<=5) (hl:log.length<=1000):
 Ca 258 #[PP b,.agg #[U B,U a,U C,U D]] w λe w'=>
  ∃v,e=.returned v/\q8s w (log.filter (qcs B a C D)) v w':=by
 obtain⟨la,lc,rfl,hT⟩:=yx h.rlog;have hc1:=hT.len;have hc2:=hT.cap;have G:=qo.new w 77 B a C D;have E:=boxed (jcc _ w) (.cells #[U B,U a,U C,U D] 77);have s7:=cell_later E (h.box.c 7);have HH:=hd1 h;have HS:=hd1 hs;go_enter Tryz.func258,Tryz.ntmps258
 go_wp2_with fail
 obtain⟨W,hWW⟩:∃W,w.alloc (.cells #[U B,U a,U C,U D] 77)=W:=⟨_,rfl⟩;rw[hWW]at G E s7 ⊢
 go_loopw [5,13] (λsl iv wr=>∃(k:Nat) (z:Int) (n:List TxM) (M:Value),M=sl/\k<=log.length/\z=k/\iv=U z/\((log.take k).filter (qcs B a C D)).map (·.t)=n.map (·.t)/\wr.ownsRow (w.heap.size+1) 102 9 M n.length (zw n)/\Hid (∀m∈n,qr wr m.wa m.wc m.t.ws/\∀j,m.blk j->M.ownBlock≠some j/\w.heap.size<=j)/\qo wr w.heap.size B a C D/\Bw w wr) (λ_ i _=>log.length-(intOf i).toNat)
 case atStart=>exact⟨0,0,[],_,rfl,by omega,rfl,rfl,by simp,jcx _ _ _ _,(λm I=>(by cases I)),G,E⟩
 obtain⟨k,z,n,M,hsl,hk,hz,rfl,V,H,N,G,E⟩:=hrel;subst hsl;have HZ:=hd1 hz;by_cases hlt:k<log.length
 ·have g1:z<(log.length:Int):=by omega
  have g2:z.toNat=k:=by omega
  have g3:0<=z:=by omega
  have hk6:n.length<=1000:=by
   have a0:=congrArg List.length V;simp only[jdh]at a0;have a1:=jdo (qcs B a C D) (log.take k);have a2:=List.length_take_le k log;omega
  obtain⟨X,Y,hwa,hcc⟩:∃X Y,la=some (AD X Y)/\∀i m r u,log[i]?=some m->(txC m)[r]?=some u->w.cell? (AD X (Y+(i*9+r)))=some u:=by
   rcases hT.held with e|e
   ·rw[e]at hlt;simp at hlt
   exact e
  obtain⟨⟨⟨f,l,wall,o,p,s,x,y,ws⟩,J,K⟩,Z⟩:∃m,log[k]?=some m:=⟨log[k],jcg hlt⟩;obtain⟨⟨hs0,hs1⟩,hn1,hn5⟩:=HS.out _ (jcq Z);simp only at hs0 hs1 hn1 hn5;have HL5:=hd2 hn1 hn5;have HWX:Hid (qr w J K ws):=(HH.out.hold _ (jcf.2 (.inl (jcq Z)))).1;have HX:=hd1 Z;have HKP:=hd1 V;have L:=λr u (hu:(txC ⟨⟨f,l,wall,o,p,s,x,y,ws⟩,J,K⟩)[r]?=some u)=>(show wr.cell? (AD X (Y+k*9+r))=some u by rw[Nat.add_assoc];exact cell_later E (hcc k _ r u Z hu));have x0:=L 0 _ rfl;have x1:=L 1 _ rfl;have x2:=L 2 _ rfl;have x3:=L 3 _ rfl;have x4:=L 4 _ rfl;have x5:=L 5 _ rfl;have x6:=L 6 _ rfl;have x7:=L 7 _ rfl;have x8:=L 8 _ rfl;rw[Nat.add_zero]at x0;rw[hwa];replace G:=G.boxed (.cells (List.toArray (T9 f l wall o p s x y J ws.length K)) 102);replace H:=H.alloc (.cells (List.toArray (T9 f l wall o p s x y J ws.length K)) 102);replace E:=boxed E (.cells (List.toArray (T9 f l wall o p s x y J ws.length K)) 102);have P:=qd.new (w:=wr) (T:=102) (T9 f l wall o p s x y J ws.length K) rfl;have y0:=qb.cell (P.c 0);have y1:=qb.cell (P.c 1);have va:=qb.cell (qk9 G hs0 hs1);have KE:Hid (qcs B a C D ⟨⟨f,l,wall,o,p,s,x,y,ws⟩,J,K⟩=decide (qp f B a C D<l)):=rfl
  go_wp2_with fail
  refine wrl ?_
  repeat (go_big_quiet_step (first|rfl|fail))
  refine wpQuiet_nil ?_;rintro w5 ⟨⟨_,Q⟩,rfl⟩;replace G:=G.later Q;replace P:=P.later Q;replace H:=qf H (λj d=>Q.block j (H.lt j d).2);replace E:=qa E Q;replace N:Hid (∀m∈n,qr w5 m.wa m.wc m.t.ws/\∀j,m.blk j->M.ownBlock≠some j/\w.heap.size<=j):=λm I=>⟨((N.out m I).1.later (boxed (jcc _ wr) _)).later Q,(N.out m I).2⟩;cases hd:decide (qp f B a C D<l)
  ·have KF:Hid (((log.take (k+1)).filter (qcs B a C D)).map (·.t)=n.map (·.t)):=by
        have e:qcs B a C D ⟨⟨f,l,wall,o,p,s,x,y,ws⟩,J,K⟩=false:=by rw[KE.out];exact hd
        show ((log.take (k+1)).filter (qcs B a C D)).map (·.t)=n.map (·.t);rw[jdu,HX.out,jdk,jdb,HKP.out];simp[e]
   go_wp2_with fail
   go_roundw
   case rel=>exact⟨k+1,z+1,n,_,rfl,by omega,by have:=HZ.out;omega,by go_num,KF.out,H,N,G,E⟩
   simp[intOf];omega
  have KF:Hid (((log.take (k+1)).filter (qcs B a C D)).map (·.t)=n.map (·.t)++[⟨f,l,wall,o,p,s,x,y,ws⟩]):=by
   have e:qcs B a C D ⟨⟨f,l,wall,o,p,s,x,y,ws⟩,J,K⟩=true:=by rw[KE.out];exact hd
   show ((log.take (k+1)).filter (qcs B a C D)).map (·.t)=_;rw[jdu,HX.out,jdk,jdb,HKP.out];simp[e]
  obtain⟨y0,y1,y2,y3,y4,y5,y6,y7,y8⟩:=P.c9;obtain⟨i0,hi,hz0,hz1,hz2⟩:=info_parts qpi
  have hsz5:w.heap.size+1<=w5.heap.size:=by have:=G.lt;omega
  have HOLD:=hd1 (λj d=>(H.lt j d).2);have CP:=qgq ⟨⟨f,l,wall,o,p,s,x,y,ws⟩,J,K⟩ w5 (HWX.out.later E) HL5.out.1 (by have:=HL5.out;simp only;omega);simp only[txV]at CP
  go_wp2_with fail
  refine CP.mono ?_;rintro e R ⟨m2,hm2,rfl,W62,hk2,aa⟩;obtain⟨t2,a2,O⟩:=m2;simp only at hm2 W62;subst hm2;simp only[txV];replace G:=G.later aa;replace H:=qf H (λj d=>aa.block j (H.lt j d).2)
  have HO5:=hd1 (λj d=>by
   have:=(H.lt j d).1
   exact HOLD.out j d)
  replace E:=qa E aa
  have HW6:Hid (∀m∈n++[⟨⟨f,l,wall,o,p,s,x,y,ws⟩,a2,O⟩],qr R m.wa m.wc m.t.ws/\∀j,m.blk j->M.ownBlock≠some j/\w.heap.size<=j):=λm I=>by
   rcases jcf.1 I with a|a
   ·exact⟨(N.out m a).1.later aa,(N.out m a).2⟩
   rw[jcj.1 a];refine⟨W62,λj d=>⟨λe=>?_,?_⟩⟩
   ·have q1:=hk2 j d;have q2:=HO5.out j e;omega
   have q1:=hk2 j d;omega
  have hsz6:w.heap.size+1<=R.heap.size:=by have:=G.lt;omega
  have HS6:=hd1 hsz6
  go_wp2_with (at_builtin;refine wpList_append_lies _ rfl (.tmp 24) (.tmp 27) 80 rfl (w.heap.size+1) 102 i0 (.agg ZA) 9 88 Tryz.underlying80 hi hz0 hz1 hz2 rfl (by decide) M n.length (zw n) rfl (H.alloc _) (AD R.heap.size 0) 1 1 (txC ⟨⟨f,l,wall,o,p,s,x,y,ws⟩,a2,O⟩) rfl rfl (World.news_of_block (heap_alloc_new R (.cells (List.toArray (T9 f l wall o p s x y a2 ws.length O)) 102))) (qih _) (by decide) (by simp only[maxLen];omega) (by omega) (by simp;omega) _ rfl ?_;intro g cap9 wE ownE grE egE ltE)
  have rowsg:=λj d=>(H.lt j d).1;have RAE:=(G.boxed (.cells (List.toArray (T9 f l wall o p s x y a2 ws.length O)) 102)).grown4 grE (λe=>by have:=rowsg _ e.symm;omega);have hbE:=(boxed E (.cells (List.toArray (T9 f l wall o p s x y a2 ws.length O)) 102)).grown grE (by have:=E.size;simp;omega) (λj d=>by have:=rowsg j d;omega)
  have HWE:Hid (∀m∈n++[⟨⟨f,l,wall,o,p,s,x,y,ws⟩,a2,O⟩],qr wE m.wa m.wc m.t.ws/\∀j,m.blk j->(Value.slice (PT g) (n.length+1) cap9).ownBlock≠some j/\w.heap.size<=j):=λm I=>by
   have q:=HW6.out m I;have q1:=q.1.later (boxed (jcc _ R) (.cells (List.toArray (T9 f l wall o p s x y a2 ws.length O)) 102));refine⟨q1.kept (λj d=>grE.block j (q1.blk_lt j d) (λe=>(q.2 j d).1 e.symm)),λj d=>⟨λe=>?_,(q.2 j d).2⟩⟩
   have eg:g=j:=by simpa[Value.ownBlock]using e
   rcases egE with a|a
   ·exact(q.2 j d).1 (by rw[a,eg])
   have:=q.1.blk_lt j d;simp at a;omega
  go_roundw
  case rel=>exact⟨k+1,z+1,n++[⟨⟨f,l,wall,o,p,s,x,y,ws⟩,a2,O⟩],_,rfl,by omega,by have:=HZ.out;omega,by go_num,by rw[jdb];exact KF.out,by rw[qkf,jcl];exact ownE,HWE,RAE,hbE⟩
  simp[intOf];omega
 have g1:¬z<(log.length:Int):=by omega
 obtain rfl:k=log.length:=by omega
 rw[jc9]at V;have HKF:=hd1 V
 go_wp2_with fail
 go_ret;exact⟨M,rfl,n,HKF.out,⟨_,Nat.le_succ _,H⟩,λm I=>⟨(N.out m I).1,λj d=>((N.out m I).2 j d).2⟩,E⟩
section
def qd6 (S:qe) (h0 h1 h2 h3:Int):List TxP:=S.log.filter (λt=>decide (qp t.site h0 h1 h2 h3<t.seq))
variable {S:qe}
theorem qrt {log:List TxM} (h:log.map (·.t)=S.log) (a b c d:Int):(log.filter (qcs a b c d)).map (·.t)=qd6 S a b c d:=by
 unfold qd6;rw[<-h,List.filter_map];rfl
def q9i (w:World) (L:List TxP) (v:Value) (w':World):Prop:=∃kept:List TxM,kept.map (·.t)=L/\(∃B,w.heap.size<=B/\w'.ownsRow B 102 9 v kept.length (zw kept))/\(∀m∈kept,qr w' m.wa m.wc m.t.ws/\∀j,m.blk j->w.heap.size<=j)/\Bw w w'
theorem qtx {b:Nat} {G:Nat->Prop} (a c d f:Int) (w:World) (h:PS w b G S) (i:j3 S):
 Ca 258 #[PP b,.agg #[U a,U c,U d,U f]] w λe w'=>∃v,e=.returned v/\q9i w (qd6 S a c d f) v w':=by
 obtain⟨lv,bm,F,log,waits,h,g,_,_⟩:=h
 have r:log.length=S.log.length:=by rw[<-g];simp
 refine(qt1 a c d f w h (λm j=>i.lsite m.t (by rw[<-g];exact jcz.2 ⟨m,j,rfl⟩)) (by have:=i.log;omega)).mono λe w' ⟨v,k,l,n,o,p,q⟩=>⟨v,k,l,?_,o,p,q⟩;rw[<-n];exact qrt g _ _ _ _
end
theorem qlz (x y:Int) (w:World):
 Ca 268 #[U x,U y] w λe w'=>e=.returned (U (jd x y))/\w'=w:=by
 by_cases h:x<y
 ·rw[qia h];go_enter Tryz.func268,Tryz.ntmps268
  go_wp2
  go_ret;exact⟨rfl,rfl⟩
 rw[qh1 h];go_enter Tryz.func268,Tryz.ntmps268
 go_wp2
 go_ret;exact⟨rfl,rfl⟩
theorem q6d (a0 a1 a2 a3 a b c d:Int) (w:World):
 Ca 219 #[.agg #[U a0,U a1,U a2,U a3],.agg #[U a,U b,U c,U d],.func (.func 268) #[] #[]] w (Rn (.agg #[U (jd a0 a),U (jd a1 b),U (jd a2 c),U (jd a3 d)]) w):=by
 go_enter Tryz.func219,Tryz.ntmps219
 go_wp2
 refine wp_loop_rounds 5 ?_;rw[rounds_succ]
 go_wp2
 go_region_held3 (λw'=>w'.cell? (AD w.heap.size 0)=some (U a0)/\w'.cell? (AD w.heap.size 1)=some (U a1)/\w'.cell? (AD w.heap.size 2)=some (U a2)/\w'.cell? (AD w.heap.size 3)=some (U a3)/\w'.cell? (AD (w.heap.size+1) 0)=some (U a)/\w'.cell? (AD (w.heap.size+1) 1)=some (U b)/\w'.cell? (AD (w.heap.size+1) 2)=some (U c)/\w'.cell? (AD (w.heap.size+1) 3)=some (U d)) (go_keep) ((go_at_call 268;refine(qlz _ _ _).mono ?_;rintro e wc ⟨rfl,rfl⟩))
 go_wp2
 rw[rounds_succ]
 go_wp2
 go_region_held3 (λw'=>w'.cell? (AD w.heap.size 0)=some (U a0)/\w'.cell? (AD w.heap.size 1)=some (U a1)/\w'.cell? (AD w.heap.size 2)=some (U a2)/\w'.cell? (AD w.heap.size 3)=some (U a3)/\w'.cell? (AD (w.heap.size+1) 0)=some (U a)/\w'.cell? (AD (w.heap.size+1) 1)=some (U b)/\w'.cell? (AD (w.heap.size+1) 2)=some (U c)/\w'.cell? (AD (w.heap.size+1) 3)=some (U d)) (go_keep) ((go_at_call 268;refine(qlz _ _ _).mono ?_;rintro e wc ⟨rfl,rfl⟩))
 go_wp2
 rw[rounds_succ]
 go_wp2
 go_region_held3 (λw'=>w'.cell? (AD w.heap.size 0)=some (U a0)/\w'.cell? (AD w.heap.size 1)=some (U a1)/\w'.cell? (AD w.heap.size 2)=some (U a2)/\w'.cell? (AD w.heap.size 3)=some (U a3)/\w'.cell? (AD (w.heap.size+1) 0)=some (U a)/\w'.cell? (AD (w.heap.size+1) 1)=some (U b)/\w'.cell? (AD (w.heap.size+1) 2)=some (U c)/\w'.cell? (AD (w.heap.size+1) 3)=some (U d)) (go_keep) ((go_at_call 268;refine(qlz _ _ _).mono ?_;rintro e wc ⟨rfl,rfl⟩))
 go_wp2
 rw[rounds_succ]
 go_wp2
 go_region_held3 (λw'=>w'.cell? (AD w.heap.size 0)=some (U a0)/\w'.cell? (AD w.heap.size 1)=some (U a1)/\w'.cell? (AD w.heap.size 2)=some (U a2)/\w'.cell? (AD w.heap.size 3)=some (U a3)/\w'.cell? (AD (w.heap.size+1) 0)=some (U a)/\w'.cell? (AD (w.heap.size+1) 1)=some (U b)/\w'.cell? (AD (w.heap.size+1) 2)=some (U c)/\w'.cell? (AD (w.heap.size+1) 3)=some (U d)) (go_keep) ((go_at_call 268;refine(qlz _ _ _).mono ?_;rintro e wc ⟨rfl,rfl⟩))
 go_wp2
 rw[rounds_succ]
 go_wp2
 exact bodyPost_ret (v:=.agg #[U (jd a0 a),U (jd a1 b),U (jd a2 c),U (jd a3 d)]) (by simp[results,Tryz.results219,go_sem]) rfl ⟨rfl,by repeat (first|exact jcc _ _|apply jc6|apply boxed)⟩
theorem qzz (a0 a1 a2 a3 a b c d:Int) (w:World):
 Ca 240 #[.agg #[U a0,U a1,U a2,U a3],.agg #[U a,U b,U c,U d]] w (Rn (.agg #[U (jd a0 a),U (jd a1 b),U (jd a2 c),U (jd a3 d)]) w):=by
 go_enter Tryz.func240,Tryz.ntmps240
 go_wp2_with fail
 refine(q6d _ _ _ _ _ _ _ _ _).mono ?_;rintro e g ⟨rfl,f⟩;obtain⟨h,i⟩:=qdb f
 have j:w.heap.size+2<g.heap.size:=by have:=f.size;simp at this;omega
 go_wp2
 exact bodyPost_ret (v:=.agg #[U (jd a0 a),U (jd a1 b),U (jd a2 c),U (jd a3 d)]) (by simp[results,Tryz.results240,go_sem,h]) rfl ⟨rfl,((((qs1 f).setCell (by simp;omega) _).setCell (by simp;omega) _).setCell (by simp;omega) _).setCell (by simp;omega) _⟩
theorem qp2 {n:Int} {v:Bool} (h:(decide (0<=n)&&decide (n<4))=v) (w:World):
 Ca 165 #[U n] w λe w'=>e=.returned (.bool v)/\w'=w:=by
 by_cases a:0<=n;by_cases b:n<4
 have e:v=true:=by rw[<-h];simp[a,b]
 rotate_left
 have e:v=false:=by rw[<-h];simp[b]
 rotate_left
 have e:v=false:=by rw[<-h];simp[a]
 all_goals
  subst e;go_enter Tryz.func165,Tryz.ntmps165
  go_wp2_with fail
  go_ret;exact⟨rfl,rfl⟩
theorem jau {w:World} {id:Int} (b:List Value) (f:b=[U id,U 0,U 0,U 0,U 0,U 0,U 0,.slice none 0 0,.map (some w.heap.size),U 0,U 0,U 0,U 0,U 0,U 0,U 0,U 0,U 0,U 0,U 0,U 0,U 0,U 0,U 0,U 0,.slice none 0 0,.slice none 0 0,.slice none 0 0,.slice none 0 0,.slice none 0 0,.slice none 0 0,.slice none 0 0,.slice none 0 0]) (T:TypeId):
 PS ((w.alloc (.map #[] 0)).alloc (.cells b.toArray T)) (w.heap.size+1) (λk=>k=w.heap.size+1\/k=w.heap.size) (qg8 id):=by
 have l:(w.alloc (.map #[] 0)).heap.size=w.heap.size+1:=by simp
 have R:=qd.new (w:=w.alloc (.map #[] 0)) (T:=T) (n:=w.heap.size+1) b l
 generalize o:(w.alloc (.map #[] 0)).alloc (.cells b.toArray T)=W at R
 have d:=boxed (jcc _ (w.alloc (.map #[] 0))) (.cells b.toArray T);rw[o]at d;have p:=(qd5.made w).kept (d.block _ (qd5.made w).lt);subst f;refine⟨.slice none 0 0,w.heap.size,λk=>qfu (w.heap.size+1) (λ_=>.slice none 0 0) k,[],[],⟨⟨λj v c=>?_,λj a=>R.free j (by simp[qab]at a ⊢;omega),R.lt⟩,?_,jcx _ _ _ _,p,by simp[Value.ownBlock],by omega,by simp[Value.ownBlock],λk e=>by simp[Value.ownBlock]at e,?_,by simp⟩,rfl,rfl,λk=>?_⟩
 ·refine R.cell j v ?_
  have a:j<25:=by
   have:=(jck.1 c).1;simpa[qab]using this
  rw[<-c]
  match j,a with
  |0,_=>rfl
  |1,_=>rfl
  |2,_=>rfl
  |3,_=>rfl
  |4,_=>rfl
  |5,_=>rfl
  |6,_=>rfl
  |7,_=>rfl
  |8,_=>rfl
  |9,_=>rfl
  |10,_=>rfl
  |11,_=>rfl
  |12,_=>rfl
  |13,_=>rfl
  |14,_=>rfl
  |15,_=>rfl
  |16,_=>rfl
  |17,_=>rfl
  |18,_=>rfl
  |19,_=>rfl
  |20,_=>rfl
  |21,_=>rfl
  |22,_=>rfl
  |23,_=>rfl
  |24,_=>rfl
 ·refine⟨λ_=>.slice none 0 0,λ_=>[],⟨⟨λj v c=>?_,λj a=>R.free (25+j) (by simp at a ⊢;omega),R.lt⟩,λk _=>jcx _ _ _ _,λk _=>?_,λk _=>by simp[Value.ownBlock],λi j _ _ _ g e=>by simp[Value.ownBlock]at e⟩,?_,λk=>jdl⟩
  ·refine R.cell (25+j) v ?_;rw[<-c]
   have a:j<8:=by
        have:=(jck.1 c).1;simpa using this
   match j,a with
   |0,_=>rfl
   |1,_=>rfl
   |2,_=>rfl
   |3,_=>rfl
   |4,_=>rfl
   |5,_=>rfl
   |6,_=>rfl
   |7,_=>rfl
  ·exact List.Pairwise.nil
  exact⟨λk _=>by simp[qd3,qg8],λx q=>by simp[qg8]at q⟩
 ·rintro (h|⟨i,hi,h⟩)
  ·omega
  simp[Value.ownBlock]at h
 constructor
 ·rintro (h|h)
  ·exact .inl (.inl h)
  exact .inl (.inr (.inr (.inl h)))
 rintro ((h|h|h|h)|⟨m,r,h⟩)
 ·exact .inl h
 ·simp[Value.ownBlock]at h
 ·exact .inr h
 ·rcases h with h|⟨i,hi,h⟩
  ·exact .inl h
  simp[Value.ownBlock]at h
 simp at r
theorem q94 (id:Int) (w:World) (a:0<=id) (b:id<4):
 Ca 117 #[U id] w λe w'=>(e=.returned (.tuple #[PP (w.heap.size+1),.nilIface]))/\PS w' (w.heap.size+1) (λk=>k=w.heap.size+1\/k=w.heap.size) (qg8 id)/\Bw w w':=by
 have c:=qp2 (n:=id) (v:=true) (by simp[a,b]) w;have d:=@run_makeMap Tryz.prog;go_enter Tryz.func117,Tryz.ntmps117
 go_wp2_with fail
 refine c.mono ?_;rintro e w2 ⟨rfl,rfl⟩
 go_wp2_with fail
 exact bodyPost_ret (v:=.tuple #[PP (w2.heap.size+1),.nilIface]) (by simp[results,Tryz.results117,go_sem]) rfl ⟨rfl,jau _ rfl _,boxed (boxed (jcc _ _) _) _⟩
def vp (S:qe) (k:Nat) (x0 x1 x2 x3:Int):qe:={S with oth:=λj=>if j=k*4 then jd (S.oth j) x0 else if j=k*4+1 then jd (S.oth j) x1 else if j=k*4+2 then jd (S.oth j) x2 else if j=k*4+3 then jd (S.oth j) x3 else S.oth j}
section
inductive GrB
 |tx (t:TxP)
 |ask (site a0 a1 a2 a3:Int)
structure GrS where
 tj:Nat
 body:GrB
structure WoS where
 n:Nat
 c:Nat
 S:Nat->qe
 wall:Nat->Int
 ses:Nat->qy
 at_:Nat->Nat
 net:List GrS
 lost:Int
def jj {α:Type} (f:Nat->α) (i:Nat) (x:α):Nat->α:=λj=>if j=i then x else f j
variable {α:Type}
theorem qt (f:Nat->α) (i:Nat) (x:α):jj f i x i=x:=by simp[jj]
theorem yq (f:Nat->α) {i j:Nat} (x:α) (h:j≠i):jj f i x j=f j:=by simp[jj,h]
def qcb (n c:Nat):WoS:=⟨n,c,λi=>qg8 i,λ_=>0,λ_=>qez,λ_=>0,[],0⟩
def setSite (W:WoS) (i:Nat) (S':qe):WoS:={W with S:=jj W.S i S'}
def vf (W:WoS) (k:Nat) (s':qy):WoS:={W with ses:=jj W.ses k s'}
def zk (W:WoS) (g:GrS):WoS:=if 300<=W.net.length then {W with lost:=wrap64 (W.lost+1)}else {W with net:=W.net++[g]}
def qam (t:TxP):Nat->WoS->WoS
 |0,W=>W
 |k+1,W=>if (k:Int)=t.site then qam t k W else zk (qam t k W) ⟨k,.tx t⟩
def zl (other:Nat):List TxP->WoS->WoS
 |[],W=>W
 |t::l,W=>zl other l (if t.site=(other:Int)then W else zk W ⟨other,.tx t⟩)
def qbc (W:WoS) (k other:Nat) (v0 v1 v2 v3:Int):WoS:=
 zl other (qd6 (W.S k) v0 v1 v2 v3) (setSite W k (vp (W.S k) other v0 v1 v2 v3))
def qme (W:WoS) (k other:Nat):WoS:=zk W ⟨other,.ask k (W.S k).a0 (W.S k).a1 (W.S k).a2 (W.S k).a3⟩
def qeo (W:WoS) (g:GrS) (W':WoS):Prop:=
 match g.body with
 |.tx t=>∃S',zu (W.S g.tj) t S'/\W'=setSite W g.tj S'
 |.ask site v0 v1 v2 v3=>if 0<=site/\site<(W.n:Int)then W'=qbc W g.tj site.toNat v0 v1 v2 v3 else W'=W
def qai (W:WoS) (i:Nat):WoS:={W with net:=W.net.eraseIdx i}
def zy (W:WoS) (i:Nat) (W':WoS):Prop:=∃g,W.net[i]?=some g/\qeo (qai W i) g W'
inductive qaf:WoS->WoS->Prop
 |none {W:WoS}:W.net=[]->qaf W W
 |step {W W1 W':WoS}:W.net≠[]->zy W 0 W1->qaf W1 W'->qaf W W'
inductive qdo (k:Nat):Nat->WoS->WoS->Prop
 |zero {W:WoS}:qdo k 0 W W
 |self {W W':WoS} {m:Nat}:qdo k m W W'->m=k->qdo k (m+1) W W'
 |ask {W W1 W':WoS} {m:Nat}:qdo k m W W1->m≠k->qaf (qme W1 k m) W'->qdo k (m+1) W W'
inductive qc1:Nat->WoS->WoS->Prop
 |zero {W:WoS}:qc1 0 W W
 |next {W W1 W':WoS} {m:Nat}:qc1 m W W1->qdo m W1.n W1 W'->qc1 (m+1) W W'
def qg9 (W W':WoS):Prop:=∃W1,qaf W W1/\qc1 W1.n W1 W'
variable {x:GrS}
section
variable {W W':WoS} {g:GrS} {t:TxP} {k other:Nat}
structure qf9 (W W':WoS):Prop where
 n:W'.n=W.n
 c:W'.c=W.c
 S:W'.S=W.S
 wall:W'.wall=W.wall
 ses:W'.ses=W.ses
 at_:W'.at_=W.at_
theorem qf9.refl (W:WoS):qf9 W W:=⟨rfl,rfl,rfl,rfl,rfl,rfl⟩
theorem qf9.trans {A B C:WoS} (h:qf9 A B) (k:qf9 B C):qf9 A C:=⟨k.n.trans h.n,k.c.trans h.c,k.S.trans h.S,k.wall.trans h.wall,k.ses.trans h.ses,k.at_.trans h.at_⟩
theorem yb (W:WoS) (g:GrS):qf9 W (zk W g):=by
 unfold zk
 split<;>exact⟨rfl,rfl,rfl,rfl,rfl,rfl⟩
theorem q1h (h:W.net.length<300):(zk W g).net=W.net++[g]:=by
 unfold zk;rw[if_neg (by omega)]
theorem qke (h:x∈(zk W g).net):x∈W.net\/x=g:=by
 unfold zk at h;split at h
 ·exact .inl h
 simpa using h
theorem zx (t:TxP):∀(k:Nat) (W:WoS),qf9 W (qam t k W)
 |0,W=>qf9.refl W
 |k+1,W=>by
  unfold qam;split
  ·exact zx t k W
  exact(zx t k W).trans (yb _ _)
theorem qm3:∀(k:Nat),x∈(qam t k W).net->x∈W.net\/(x.tj<k/\x.body=.tx t)
 |0,h=>.inl h
 |k+1,h=>by
  unfold qam at h;split at h
  ·rcases qm3 k h with q|⟨q,r⟩
   ·exact .inl q
   exact .inr ⟨by omega,r⟩
  rcases qke h with q|q
  ·rcases qm3 k q with q|⟨q,r⟩
   ·exact .inl q
   exact .inr ⟨by omega,r⟩
  rw[q];exact .inr ⟨by show k<k+1;omega,rfl⟩
theorem qds (other:Nat):∀(l:List TxP) (W:WoS),qf9 W (zl other l W)
 |[],W=>qf9.refl W
 |t::l,W=>by
  unfold zl;refine qf9.trans ?_ (qds other l _);split
  ·exact qf9.refl _
  exact yb _ _
theorem qp9:∀(l:List TxP) (W:WoS),x∈(zl other l W).net->x∈W.net\/(x.tj=other/\∃t∈l,t.site≠(other:Int)/\x.body=.tx t)
 |[],W,h=>.inl h
 |t::l,W,h=>by
  unfold zl at h;rcases qp9 l _ h with q|⟨q,y,a,r⟩
  ·split at q
   ·exact .inl q
   rename_i b;rcases qke q with q|q
   ·exact .inl q
   rw[q];exact .inr ⟨rfl,t,List.mem_cons_self,b,rfl⟩
  exact .inr ⟨q,y,jdc _ a,r⟩
end
end
section
open Go.Maps
def wrV (x:Wr):Value:=.agg #[.int .i64 x.key,.string x.data,.bool x.gone]
def qqt:Value:=.agg #[.int .i64 0,.string ⟨#[]⟩,.bool false]
theorem q82 (w:World):(zeroValue 100).run Tryz.prog w=.ok qqt w:=by kernel_rfl
theorem qtl:Keyed Tryz.prog 3:=int_keyed Tryz.underlying3
theorem q4f {k:Int} (h:wfI k):keyOf Tryz.prog 3 (.int .i64 k)=some (.int .i64 k):=by
 unfold keyOf;rw[Tryz.underlying3];simp[mapKey,q8f h,Tryz.underlying3]
theorem q0i (k:Int):WideAt.IsKeyLit (.int .i64 k):=trivial
structure qr7 (D:DataW Value) (l:List Wr):Prop where
 size:Maps.size D=(jh l).length
 has:∀k x,qay l k=some x->Maps.has D (.int .i64 k)=true/\∀z,D.atKey (.int .i64 k) z=.held (wrV x)
 no:∀k,qay l k=none->Maps.has D (.int .i64 k)=false/\∀z,D.atKey (.int .i64 k) z=z
def qes (w:World) (bm:Nat) (l:List Wr):Prop:=(∀x∈l,0<=x.key/\x.key<8)/\∃D,w.ownsMap Tryz.prog 3 qcd bm (jh l).length D/\qr7 D l
variable {w:World} {bm:Nat} {l:List Wr}
theorem qes.lt (h:qes w bm l):bm<w.heap.size:=by
 obtain⟨_,D,h,_⟩:=h;exact h.lt
variable {w':World}
theorem qes.kept (h:qes w bm l) (e:w'.heap[bm]?=w.heap[bm]?):qes w' bm l:=by
 obtain⟨a,D,⟨b,c,d,r⟩,f⟩:=h;exact⟨a,D,⟨b,c,by rw[e];exact d,r⟩,f⟩
theorem qes.made (w:World):qes (w.alloc (.map #[] 0)) w.heap.size []:=
 ⟨by simp,_,World.ownsMap_made w _ _ _,⟨rfl,λk x h=>by simp[qay]at h,λ_ _=>⟨rfl,λ_=>rfl⟩⟩⟩
theorem qqu (l:List Wr) (x:Wr) (a:0<=x.key) (b:x.key<8):(jh (l++[x])).length=if qay l x.key=none then (jh l).length+1 else (jh l).length:=by
 have:=qqj l x 8 a
 show (qak (l++[x]) 8).length=if qay l x.key=none then (qak l 8).length+1 else (qak l 8).length
 rw[this];by_cases h:qay l x.key=none
 ·rw[if_pos ⟨by omega,h⟩,if_pos h]
 rw[if_neg (λe=>h e.2),if_neg h];omega
variable {D:DataW Value} {x:Wr}
theorem qxh (f:Tidy D) (h:qr7 D l) (g:0<=x.key) (i:x.key<8):qr7 (D.put (.int .i64 x.key) (.held (wrV x))) (l++[x]):=by
 refine⟨?_,λk y a=>?_,λk c=>?_⟩
 ·rw[size_put f,qqu l x g i,h.size];cases ho:qay l x.key with
  |none=>rw[(h.no _ ho).1];simp
  |some y=>rw[(h.has _ _ ho).1];simp
 ·rw[qmt]at a;by_cases e:x.key=k
  ·rw[if_pos e]at a;injection a with a;subst a;subst e;exact⟨has_put_same f.isMap (q0i _) _,λz=>atKey_put_same f.isMap (q0i _) _ z⟩
  rw[if_neg e]at a;have d:(Lit.int .i64 k)≠.int .i64 x.key:=λb=>e (by injection b with _ b;exact b.symm);exact⟨by rw[has_put_other d];exact(h.has k y a).1,λz=>by rw[atKey_put_other d];exact(h.has k y a).2 z⟩
 rw[qmt]at c;by_cases e:x.key=k
 ·rw[if_pos e]at c;cases c
 rw[if_neg e]at c;have d:(Lit.int .i64 k)≠.int .i64 x.key:=λb=>e (by injection b with _ b;exact b.symm);exact⟨by rw[has_put_other d];exact(h.no k c).1,λz=>by rw[atKey_put_other d];exact(h.no k c).2 z⟩
theorem qes.put {n:Nat} (e:∀x∈l,0<=x.key/\x.key<8) (f:w.ownsMap Tryz.prog 3 qcd bm (jh l).length D) (g:qr7 D l) (a:0<=x.key) (b:x.key<8)
 (i:w'.ownsMap Tryz.prog 3 qcd bm n (D.put (.int .i64 x.key) (.held (wrV x)))):qes w' bm (l++[x]):=by
 have c:=qxh (f.tidy qtl) g a b;refine⟨λy j=>?_,_,?_,c⟩
 ·rcases jcf.1 j with h|h
  ·exact e y h
  rw[jcj.1 h];exact⟨a,b⟩
 obtain⟨k,m,o,p,q,d⟩:=i;refine⟨k,m,o,p,?_,d⟩;have:=c.size;rw[d]at this;simp[Maps.size,length_sorted]at this;omega
end
section
variable {l:List Wr}
theorem q8d {i:Nat} {x:Wr} {key:Int} (h:l[i]?=some x) (c:x.key=key) (d:∀j y,i<j->l[j]?=some y->y.key≠key):qay l key=some x:=by
 have f:=(jck.1 h).1
 have e:l=l.take i++(x::l.drop (i+1)):=by
  have a:=jds i l;rw[jdy f]at a;have g:l[i]=x:=(jck.1 h).2;rw[g]at a;exact a.symm
 have k:(l.drop (i+1)).reverse.find? (λx=>decide (x.key=key))=none:=by
  rw[List.find?_eq_none];intro y m;obtain⟨j,b⟩:=List.getElem?_of_mem (List.mem_reverse.1 m);rw[List.getElem?_drop]at b;have:=d (i+1+j) y (by omega) b;simpa using this
 unfold qay;rw[e,List.reverse_append,List.reverse_cons,jcy,List.find?_append,k];simp[c]
theorem q15 {key:Int} (a:∀(j:Nat) (y:Wr),l[j]?=some y->y.key≠key):qay l key=none:=by
 unfold qay;rw[List.find?_eq_none];intro y b;obtain⟨j,c⟩:=List.getElem?_of_mem (List.mem_reverse.1 b);have:=a j y c;simpa using this
def qav (l:List Wr) (key:Int):Wr:=(qay l key).getD ⟨0,⟨#[]⟩,false⟩
def jr (s:qy) (wv:Value):List Value:=[U s.p0,U s.p1,U s.p2,U s.p3,U s.s0,U s.s1,U s.s2,U s.s3,.bool s.opn,wv]
structure qgs (w:World) (b:Nat) (wv:Value) (s:qy):Prop where
 box:qd w b (jr s wv)
 row:w.ownsRow 0 100 3 wv s.ws.length (qcf s.ws)
 nb:wv.ownBlock≠some b
theorem qgs.later {w w':World} {b:Nat} {wv:Value} {s:qy} (h:qgs w b wv s) (a:Bw w w'):qgs w' b wv s:=⟨h.box.later a,qf h.row (λk e=>a.block k (h.row.lt k e).2),h.nb⟩
end
section
def yj (s:qy) (mv:Value):List Value:=[U s.p0,U s.p1,U s.p2,U s.p3,.bool s.opn,U s.s0,U s.s1,U s.s2,U s.s3,mv]
def jbu (w:World) (b:Nat) (s:qy) (mv:Value) (G:Nat->Prop):Prop:=
 (s.opn=false/\mv=.map none/\s.ws=[]/\∀k,G k↔k=b)\/(s.opn=true/\∃bm,mv=.map (some bm)/\bm≠b/\qes w bm s.ws/\∀k,G k↔(k=b\/k=bm))
def PSe (w:World) (b:Nat) (G:Nat->Prop) (s:qy):Prop:=∃mv,qd w b (yj s mv)/\jbu w b s mv G
variable {w:World} {b:Nat} {G:Nat->Prop} {s:qy}
theorem PSe.lt (h:PSe w b G s):∀k,G k->k<w.heap.size:=by
 obtain⟨mv,d,⟨_,_,_,a⟩|⟨_,bm,_,_,f,a⟩⟩:=h
 ·intro k c;rw[(a k).1 c];exact d.lt
 intro k c;rcases(a k).1 c with e|e
 ·rw[e];exact d.lt
 rw[e];exact f.lt
theorem PSe.own (h:PSe w b G s):G b:=by
 obtain⟨mv,c,⟨_,_,_,a⟩|⟨_,bm,_,_,d,a⟩⟩:=h
 ·exact(a b).2 rfl
 exact(a b).2 (.inl rfl)
variable {w':World}
theorem PSe.kept (h:PSe w b G s) (e:∀k,G k->w'.heap[k]?=w.heap[k]?) (g:w.heap.size<=w'.heap.size):PSe w' b G s:=by
 have i:=h.own;obtain⟨mv,j,⟨a,f,c,d⟩|⟨a,bm,f,c,l,d⟩⟩:=h
 ·exact⟨mv,j.kept (e b i) g,.inl ⟨a,f,c,d⟩⟩
 exact⟨mv,j.kept (e b i) g,.inr ⟨a,bm,f,c,l.kept (e bm ((d bm).2 (.inr rfl))),d⟩⟩
theorem PSe.later (h:PSe w b G s) (a:Bw w w'):PSe w' b G s:=h.kept (λk c=>a.block k (h.lt k c)) a.size
def qix (b:Nat) (s:qy):qfr:=⟨λw G=>PSe w b G s,λ_ _ h=>h.lt,λ_ _ _ h=>h.kept⟩
def qc8 (w:World) (b:Nat) (G:Nat->Prop) (s':qy) (w':World):Prop:=∃G',PSe w' b G' s'/\(∀k,G' k->G k\/w.heap.size<=k)/\qc G w w'
theorem qc8.same (h:PSe w b G s) (a:Bw w w'):qc8 w b G s w':=⟨G,h.later a,λ_ c=>.inl c,qc.ofBelow a⟩
variable {w2:World} {G1:Nat->Prop}
theorem qc8.trans {a:World} {c:qy} (d:∀k,G1 k->G k\/w.heap.size<=k) (e:qc G w a) (h:qc8 a b G1 c w2):qc8 w b G c w2:=by
 obtain⟨g,i,j,l⟩:=h;refine⟨g,i,λk m=>?_,e.more l d⟩;rcases j k m with f|f
 ·exact d k f
 exact .inr (by have:=e.size;omega)
theorem q9y (T:TypeId):PSe (w.alloc (.cells (yj qez (.map none)).toArray T)) w.heap.size (λk=>k=w.heap.size) qez:=
 ⟨.map none,qd.new (w:=w) (T:=T) _ rfl,.inl ⟨rfl,rfl,rfl,λ_=>jdl⟩⟩
variable {mv:Value}
theorem q8i (a:G b) (c:Bw w w2) (B:qd w2 b (yj s mv)) (x0 x1 x2 x3:Int):
 qc8 w b G ⟨x0,x1,x2,x3,false,0,0,0,0,[]⟩ ((((((((((w2.setCell (AD b 0) (U x0)).setCell (AD b 1) (U x1)).setCell (AD b 2) (U x2)).setCell (AD b 3) (U x3)).setCell (AD b 4) (.bool false)).setCell (AD b 5) (U 0)).setCell (AD b 6) (U 0)).setCell (AD b 7) (U 0)).setCell (AD b 8) (U 0)).setCell (AD b 9) (.map none)):=by
 have d:=B.set 0 (U x0) (by simp[yj]);have e:=d.set 1 (U x1) (by simp[yj]);have f:=e.set 2 (U x2) (by simp[yj]);have g:=f.set 3 (U x3) (by simp[yj]);have h:=g.set 4 (.bool false) (by simp[yj]);have i:=h.set 5 (U 0) (by simp[yj]);have j:=i.set 6 (U 0) (by simp[yj]);have l:=j.set 7 (U 0) (by simp[yj]);have m:=l.set 8 (U 0) (by simp[yj]);have n:=m.set 9 (.map none) (by simp[yj]);refine⟨λk=>k=b,⟨.map none,n,.inl ⟨rfl,rfl,rfl,λ_=>jdl⟩⟩,λk o=>.inl (by rw[o];exact a),?_⟩;have T:=qc.ofBelow (F:=G) c;refine T.trans ?_;exact(((((((((qc.setCell _ _ _ a).trans (qc.setCell _ _ _ a)).trans (qc.setCell _ _ _ a)).trans (qc.setCell _ _ _ a)).trans (qc.setCell _ _ _ a)).trans (qc.setCell _ _ _ a)).trans (qc.setCell _ _ _ a)).trans (qc.setCell _ _ _ a)).trans (qc.setCell _ _ _ a)).trans (qc.setCell _ _ _ a)
theorem q37 {bm:Nat} (a:G b) (d:Bw w w2) (B:qd w2 b (yj s mv)) (e:qes w2 bm []) (o:w.heap.size<=bm) (p:b<w.heap.size) (a0 a1 a2 a3:Int):
 qc8 w b G {s with opn:=true,s0:=a0,s1:=a1,s2:=a2,s3:=a3,ws:=[]} ((((((w2.setCell (AD b 4) (.bool true)).setCell (AD b 5) (U a0)).setCell (AD b 6) (U a1)).setCell (AD b 7) (U a2)).setCell (AD b 8) (U a3)).setCell (AD b 9) (.map (some bm))):=by
 have f:=B.set 4 (.bool true) (by simp[yj]);have g:=f.set 5 (U a0) (by simp[yj]);have i:=g.set 6 (U a1) (by simp[yj]);have j:=i.set 7 (U a2) (by simp[yj]);have l:=j.set 8 (U a3) (by simp[yj]);have m:=l.set 9 (.map (some bm)) (by simp[yj])
 have c:bm≠b:=by omega
 refine⟨λk=>k=b\/k=bm,⟨.map (some bm),m,.inr ⟨rfl,bm,rfl,c,e.kept ?_,λ_=>jdl⟩⟩,λk n=>?_,?_⟩
 ·rw[jce _ _ _ _ c,jce _ _ _ _ c,jce _ _ _ _ c,jce _ _ _ _ c,jce _ _ _ _ c,jce _ _ _ _ c]
 ·rcases n with h|h
  ·exact .inl (by rw[h];exact a)
  exact .inr (by omega)
 have T:=qc.ofBelow (F:=G) d;refine T.trans ?_;exact(((((qc.setCell _ _ _ a).trans (qc.setCell _ _ _ a)).trans (qc.setCell _ _ _ a)).trans (qc.setCell _ _ _ a)).trans (qc.setCell _ _ _ a)).trans (qc.setCell _ _ _ a)
theorem q7c (h:PSe w2 b G1 s) (d:∀k,G1 k->G k\/w.heap.size<=k) (e:G b) (f:qc G w w2) (n:Nat) (g:n<4) (x:Int):
 qc8 w b G {s with p0:=if n=0 then x else s.p0,p1:=if n=1 then x else s.p1,p2:=if n=2 then x else s.p2,p3:=if n=3 then x else s.p3} (w2.setCell (AD b n) (U x)):=by
 obtain⟨mv,B,i⟩:=h;have R:=B.set n (U x) (by simp[yj];omega);refine⟨G1,⟨mv,?_,?_⟩,d,f.trans (qc.setCell _ _ _ e)⟩
 ·match n,g with
  |0,_=>exact R
  |1,_=>exact R
  |2,_=>exact R
  |3,_=>exact R
 rcases i with j|⟨a,bm,l,c,m,o⟩
 ·exact .inl j
 exact .inr ⟨a,bm,l,c,m.kept (jce _ _ _ _ c),o⟩
end
section
def qa5 (w:World) (rb:Nat) (a:Option Addr) (R:List UInt8):Prop:=
 R=[]\/∃b o,a=some (AD b o)/\b<rb/\∀j u,R[j]?=some u->w.cell? (AD b (o+j))=some (.int .u8 u.toNat)
structure Rd (w:World) (rb:Nat) (R:List UInt8) (wrong:Bool):Prop where
 rest:∃a c,w.cell? (AD rb 0)=some (.slice a R.length c)/\R.length<=c/\qa5 w rb a R
 c1:w.cell? (AD rb 1)=some (.bool wrong)
 f0:w.frozen? (AD rb 0)=false
 f1:w.frozen? (AD rb 1)=false
def qzn (k:Nat) (n:Int):Option (Int×List UInt8)->Option (Int×List UInt8)
 |none=>none
 |some (m,r)=>if 0<k/\m=0 then none else some (n+128^k*m,r)
def qoh (k:Nat) (n:Int) (R:List UInt8):Option (Int×List UInt8):=if 6<=k then none else qzn k n (qb3 (5-k) R)
theorem q3t (R:List UInt8):qoh 0 0 R=qb3 5 R:=by
 show qzn 0 0 (qb3 5 R)=_;cases h:qb3 5 R with
 |none=>rfl
 |some x=>
  obtain⟨m,r⟩:=x;simp[qzn]
theorem q7b (n:Int) (R:List UInt8):qoh 6 n R=none:=rfl
theorem q7q (k:Nat) (n:Int):qoh k n []=none:=by
 unfold qoh;split
 ·rfl
 cases h:5-k<;>rfl
variable {k:Nat} {n:Int} {c:UInt8} {R:List UInt8}
theorem q2k (j:k<6) (b:¬c.toNat<128):qoh k n (c::R)=qoh (k+1) (n+((c.toNat:Int)-128)*128^k) R:=by
 unfold qoh;rw[if_neg (by omega)];by_cases d:k=5
 ·subst d;show qzn 5 n (if c.toNat<128 then some ((c.toNat:Int),R)else none)=none;rw[if_neg b];rfl
 rw[if_neg (by omega)];obtain⟨f,g⟩:∃f,5-k=f+1:=⟨4-k,by omega⟩
 have i:5-(k+1)=f:=by omega
 rw[g,i]
 show qzn k n (if c.toNat<128 then some ((c.toNat:Int),R)else match qb3 f R with
  |none=>none
  |some (n,r')=>if n=0 then none else some ((c.toNat:Int)-128+128*n,r'))=_
 rw[if_neg b];cases h:qb3 f R with
 |none=>rfl
 |some x=>
  obtain⟨m,r⟩:=x;have l:=(qlk f R m r h).1.1;by_cases a:m=0
  ·subst a;simp[qzn]
  have o:128<=c.toNat:=by omega
  have e:¬((c.toNat:Int)-128+128*m=0):=by omega
  simp only[qzn,if_neg a];rw[if_neg (λx=>e x.2),if_neg (λx=>a x.2)]
  congr 2
  have:(128:Int)^(k+1)=128^k*128:=Int.pow_succ 128 k;rw[this]
  generalize (128:Int)^k=P
  rw[Int.mul_add,Int.mul_comm ((c.toNat:Int)-128) P,Int.add_assoc,Int.mul_assoc]
theorem q1y (b:k<6) (a:c.toNat<128):qoh k n (c::R)=if 0<k/\(c.toNat:Int)=0 then none else some (n+128^k*c.toNat,R):=by
 unfold qoh;rw[if_neg (by omega)]
 have:qb3 (5-k) (c::R)=some ((c.toNat:Int),R):=by
  cases h:5-k<;>(unfold qb3;rw[if_pos a])
 rw[this];rfl
theorem qan (g o:Nat) (w:World) (v:Value):yu g w (w.setCell (AD g o) v):=⟨rfl,rfl,rfl,by simp[World.setCell],λk _ a=>jce w (AD g o) v k (λe=>a (by rw[e]))⟩
variable {w:World} {rb:Nat}
theorem Rd.put {d:List UInt8} {g:Bool} (h:Rd w rb R g) (a:Option Addr) (n c:Nat) (l:n=d.length) (m:d.length<=c) (f:qa5 w rb a d):Rd (w.setCell (AD rb 0) (.slice a n c)) rb d g:=by
 subst l;obtain⟨a0,s,p,_,_⟩:=h.rest;refine⟨⟨a,c,jc8 w _ _ p,m,?_⟩,?_,?_,?_⟩
 ·rcases f with f|⟨b,o,e,i,q⟩
  ·exact .inl f
  refine .inr ⟨b,o,e,i,λj u r=>?_⟩;rw[jco (h:=λe=>Nat.ne_of_lt i (by injection e with e1 _ _;exact e1.symm))];exact q j u r
 ·rw[jco (h:=λe=>by injection e with _ e2 _;cases e2)];exact h.c1
 ·rw[jcm];exact h.f0
 rw[jcm];exact h.f1
theorem Rd.bad {f:Bool} (h:Rd w rb R f):Rd (w.setCell (AD rb 1) (.bool true)) rb R true:=by
 obtain⟨a0,g,i,l,a⟩:=h.rest;refine⟨⟨a0,g,?_,l,?_⟩,jc8 w _ _ h.c1,?_,?_⟩
 ·rw[jco (h:=λe=>by injection e with _ e2 _;cases e2)];exact i
 ·rcases a with a|⟨b,o,e,d,m⟩
  ·exact .inl a
  refine .inr ⟨b,o,e,d,λj u p=>?_⟩;rw[jco (h:=λe=>Nat.ne_of_lt d (by injection e with e1 _ _;exact e1.symm))];exact m j u p
 ·rw[jcm];exact h.f0
 rw[jcm];exact h.f1
theorem qa5.drop {b o c:Nat} (d:b<rb) (e:∀j u,R[j]?=some u->w.cell? (AD b (o+j))=some (.int .u8 u.toNat)) (f:k<=R.length) (g:R.length<=c):
 qa5 w rb (if c=k then some (AD b o)else some (AD b (o+k))) (R.drop k):=by
 by_cases h:c=k
 ·exact .inl (jdw (by omega))
 rw[if_neg h];refine .inr ⟨b,o+k,rfl,d,λj u a=>?_⟩;rw[List.getElem?_drop]at a;rw[Nat.add_assoc];exact e _ _ a
theorem q7y (a:k<6):(128:Int)^k<=34359738368:=by
 have:k=0\/k=1\/k=2\/k=3\/k=4\/k=5:=by omega
 rcases this with rfl|rfl|rfl|rfl|rfl|rfl<;>decide
theorem q44 (k:Nat):(2:Int)^(7*(k:Int)).toNat=128^k:=by
 have e:(7*(k:Int)).toNat=7*k:=by omega
 rw[e,Int.pow_mul];rfl
theorem q3v {x P:Int} (b:0<=x) (d:x<=127) (a:0<=P):0<=x*P/\x*P<=127*P:=
 ⟨Int.mul_nonneg b a,Int.mul_le_mul_of_nonneg_right d a⟩
theorem q1w {m z:Int} (g:k<6) (h:z=k) (j:0<=n) (b:n<128^k):wrap64 (n+wrap64 (m%128*2^(7*z).toNat))=n+m%128*128^k/\0<=n+m%128*128^k/\n+m%128*128^k<128^(k+1):=by
 have i:(128:Int)^(k+1)=128^k*128:=Int.pow_succ 128 k;rw[h,q44,i];have d:=q7y g
 have a:(0:Int)<=128^k:=by omega
 revert d a b
 generalize (128:Int)^k=P
 intro b d a;obtain⟨e,f⟩:=q3v (x:=m%128) (by omega) (by omega) a
 revert e f
 generalize m%128*P=Q
 intro e f;unfold wrap64;omega
def qbm (most:Int) (R:List UInt8) (wrong:Bool) (v:Int) (R':List UInt8) (wrong':Bool):Prop:=
 R'.length<=R.length/\((qb3 5 R=some (v,R')/\v<=most/\wrong'=wrong)\/((∀n r,qb3 5 R=some (n,r)->¬n<=most)/\v=0/\wrong'=true))
def q8e (most:Int) (R:List UInt8) (wrong:Bool) (rb:Nat) (w:World) (v:Int) (w':World):Prop:=∃R' wrong',qbm most R wrong v R' wrong'/\Rd w' rb R' wrong'/\yu rb w w'
theorem ym (rb:Nat) (R:List UInt8) (p:Bool) (I:Int) (w:World) (hR:Rd w rb R p):
 Ca 248 #[PP rb,U I] w λe w'=>
  ∃v,e=.returned (U v)/\q8e I R p rb w v w':=by
 go_enter Tryz.func248,Tryz.ntmps248
 go_wp2_with fail
 go_loopw [5,8] (λnv iv wr=>∃(k:Nat) (z n:Int) (g:List UInt8),k<=6/\z=k/\iv=U z/\nv=U n/\0<=n/\n<128^k/\g.length<=R.length/\qb3 5 R=qoh k n g/\Rd wr rb g p/\yu rb w wr) (λ_ i _=>6-(intOf i).toNat)
 case atStart=>exact⟨0,0,0,R,by omega,rfl,rfl,rfl,by omega,by decide,by omega,(q3t R).symm,hR,yu.refl _ _⟩
 obtain⟨k,z,n,g,hk,S,rfl,rfl,n0,T,J,V,d,t⟩:=hrel;have y:=hd1 V;clear V;obtain⟨a,c,W,X,hB⟩:=d.rest;have q1:=d.c1;have g0:=d.f0;have g1:=d.f1;by_cases K:k<6
 ·have h1:z<6:=by omega
  have h3:0<=z:=by omega
  have B:=hd1 S;clear S;have N1:=hd1 T;clear T;cases g with
  |nil=>
   simp only[List.length_nil]at W;have L:=d.bad
   go_wp2_with fail
   go_ret;exact⟨0,rfl,[],true,⟨by simp,.inr ⟨λn r h=>(by rw[y.out,q7q]at h;cases h),rfl,rfl⟩⟩,L,t.trans (qan _ _ _ _) (.inl rfl)⟩
  |cons ch R''=>
   obtain⟨b,o,rfl,hne,M⟩:∃b o,a=some (AD b o)/\b<rb/\∀j u,(ch::R'')[j]?=some u->wr.cell? (AD b (o+j))=some (.int .u8 u.toNat):=by
        rcases hB with h|h
        ·cases h
        exact h
   have x0:wr.cell? (AD b o)=some (.int .u8 ch.toNat):=M 0 ch rfl;have N:=qa5.drop (k:=1) hne M (by simp) X;obtain⟨q,ha'⟩:∃q,(if c=1 then some ((AD b o):Addr)else some (AD b (o+1)))=q:=⟨_,rfl⟩;rw[ha']at N;have HC:Hid (qa5 wr rb q R''):=N;clear N;clear M;have hch:=ch.toNat_lt;obtain⟨m,O⟩:∃m:Int,m=ch.toNat:=⟨_,rfl⟩;rw[<-O]at x0;have C:=hd1 O
   have m0:0<=m:=by omega
   have m1:m<256:=by omega
   clear O;have hlen3:R''.length+1<=R.length:=J;obtain⟨D,F⟩:∃D:Nat,R''.length=D:=⟨_,rfl⟩;rw[List.length_cons,F]at W X;rw[F]at hlen3;have f:=hd1 F;clear F J;obtain⟨bm,Y,P⟩:=q1w (m:=m) K B.out n0 N1.out;obtain⟨v,G⟩:∃v,v=n+m%128*128^k:=⟨_,rfl⟩;rw[<-G]at bm Y P;have Z:=hd1 G;have B1:=hd1 P;clear G P;have aa:=d.put q D (c-1) f.out.symm (by rw[f.out];omega) HC.out;have s:Hid (yu rb w (wr.setCell (AD rb 0) (.slice q D (c-1)))):=t.trans (qan _ _ _ _) (.inl rfl);have H:=hd1 aa;clear aa d t;by_cases hm2:128<=m
   ·have E:Hid (qb3 5 R=qoh (k+1) v R''):=by
     have e:m%128=(ch.toNat:Int)-128:=by have:=C.out;omega
     show qb3 5 R=_;rw[y.out,q2k K (by have:=C.out;omega),Z.out,e]
    go_wp2_with fail
    go_roundw
    case rel=>exact⟨k+1,z+1,v,R'',by omega,by have:=B.out;omega,rfl,by first|rfl|rw[bm],Y,B1.out,by rw[f.out];omega,E.out,H.out,s.out⟩
    simp[intOf];omega
   have E:Hid (qb3 5 R=if 0<k/\m=0 then none else some (v,R'')):=by
        have e:m%128=m:=by omega
        show qb3 5 R=_;rw[y.out,q1y K (by have:=C.out;omega),Z.out,e,C.out,Int.mul_comm (128^k)]
   have ab:=H.out.bad;have ac:=hd1 ab;clear ab;by_cases G:I<v
   ·go_wp2_with fail
    go_ret;refine⟨0,rfl,R'',true,⟨by rw[f.out];omega,.inr ⟨λn r h=>?_,rfl,rfl⟩⟩,ac.out,s.out.trans (qan _ _ _ _) (.inl rfl)⟩;rw[E.out]at h;split at h
    ·cases h
    injection h with h;injection h with h1 _;omega
   by_cases l:m=0
   ·have e0:(m==0)=true:=by simp[l]
    have Q:=hd1 l;clear l;by_cases hk0:0<z
    ·go_wp2_with fail
     go_ret;refine⟨0,rfl,R'',true,⟨by rw[f.out];omega,.inr ⟨λn r h=>?_,rfl,rfl⟩⟩,ac.out,s.out.trans (qan _ _ _ _) (.inl rfl)⟩;rw[E.out,if_pos ⟨by have:=B.out;omega,Q.out⟩]at h;cases h
    go_wp2_with fail
    go_ret;refine⟨v,rfl,R'',p,⟨by rw[f.out];omega,.inl ⟨?_,by omega,rfl⟩⟩,H.out,s.out⟩;rw[E.out,if_neg (λx=>by have:=B.out;have:=x.1;omega)]
   have e0:(m==0)=false:=by simp[l]
   have Q:=hd1 l;clear l
   go_wp2_with fail
   go_ret;refine⟨v,rfl,R'',p,⟨by rw[f.out];omega,.inl ⟨?_,by omega,rfl⟩⟩,H.out,s.out⟩;rw[E.out,if_neg (λx=>Q.out x.2)]
 have e:k=6:=by omega
 have L:=d.bad
 go_wp2_with fail
 go_ret;exact⟨0,rfl,g,true,⟨J,.inr ⟨λn r h=>(by rw[y.out,e,q7b]at h;cases h),rfl,rfl⟩⟩,L,t.trans (qan _ _ _ _) (.inl rfl)⟩
end
section
open Tryz
def qkz (R:List UInt8) (wrong:Bool) (n:Int) (s:ByteArray) (R':List UInt8) (wrong':Bool):Prop:=
 (n<=R.length/\toL s=R.take n.toNat/\R'=R.drop n.toNat/\wrong'=wrong)\/((R.length:Int)<n/\s=⟨#[]⟩/\R'=R/\wrong'=true)
def q7a (R:List UInt8) (wrong:Bool) (n:Int) (rb:Nat) (w:World) (s:ByteArray) (w':World):Prop:=∃R' wrong',qkz R wrong n s R' wrong'/\Rd w' rb R' wrong'/\yu rb w w'
theorem jb0 (a:Option Addr) (c:Nat) (w:World):(convert 30 9 (.slice a 0 c)).run prog w=.ok (.string ⟨#[]⟩) w:=by
 rw[run_convert_bytes_string w 30 9 5 a 0 c underlying30 underlying5 underlying9];cases a with
 |none=>simp[Conv.bytesToString];rfl
 |some a=>simp[Conv.bytesToString,loadCells,loadCellsFrom];rfl
variable {R:List UInt8}
theorem jbb {w:World} {b o:Nat} (n c:Nat) (i:n<=R.length) (d:∀j u,R[j]?=some u->w.cell? (AD b (o+j))=some (.int .u8 u.toNat)):
 (convert 30 9 (.slice (some (AD b o)) n c)).run prog w=.ok (.string ⟨(R.take n).toArray⟩) w:=by
 have f:((R.take n).map λb=>(b.toNat:Int)).length=n:=by simp;omega
 have:=run_convert_bytes_arg (P:=prog) w 30 5 underlying30 underlying5 b o n c ((R.take n).map λb=>(b.toNat:Int)) f (λj g=>by
  have a:j<R.length:=by omega
  rw[d j R[j] (jcg a)]
  simp[List.getD,List.getElem?_eq_getElem a,List.getElem?_take_of_lt g]) 9 underlying9
 have e:((λn:Int=>UInt8.ofNat n.toNat)∘λb:UInt8=>(b.toNat:Int))=id:=by
  funext b
  simp
 have h:strOfNums ((R.take n).map λb=>(b.toNat:Int))=⟨(R.take n).toArray⟩:=by
  unfold strOfNums;rw[List.map_map,e,List.map_id]
 rw[this,h]
theorem qrw (j:Nat) (R:List UInt8) (i:Bool) (n:Int) (w:World) (f:Rd w j R i) (I:0<=n) (z:R.length<=1000000):
 Ca 275 #[PP j,U n] w λe w'=>
  ∃s,e=.returned (.string s)/\q7a R i n j w s w':=by
 obtain⟨a,c,B,x,C⟩:=f.rest;have J:=f.c1;have K:=f.f0;have L:=f.f1;obtain⟨g,l⟩:∃g,R.length=g:=⟨_,rfl⟩;rw[l]at B x z;have d:=hd1 l;clear l;by_cases h:(g:Int)<n
 ·have D:=f.bad;go_enter func275,ntmps275
  go_wp2_with fail
  go_ret;exact⟨_,rfl,R,true,.inr ⟨by rw[d.out];exact h,rfl,rfl,rfl⟩,D,qan _ _ _ _⟩
 rcases C with p|⟨b,o,rfl,E,q⟩
 ·obtain rfl:g=0:=by rw[<-d.out,p];rfl
  obtain rfl:n=0:=by omega
  have F:=hd1 p;clear p;have y:=jb0;have r:=hd1 (f.put a 0 c rfl (by simp) (.inl rfl));go_enter func275,ntmps275
  go_wp2_with fail
  go_ret;exact⟨_,rfl,[],i,.inl ⟨by rw[d.out];decide,rfl,by rw[F.out];rfl,rfl⟩,r.out,qan _ _ _ _⟩
 obtain⟨m,rfl⟩:∃m:Nat,n=m:=⟨n.toNat,by omega⟩;have y:=jbb (R:=R) m c (by rw[d.out];omega) q;have t:=qa5.drop (k:=m) E q (by rw[d.out];omega) (by rw[d.out];exact x);obtain⟨u,G⟩:∃u,(if c=m then some ((AD b o):Addr)else some (AD b (o+m)))=u:=⟨_,rfl⟩;rw[G]at t;obtain⟨s,v⟩:∃s:ByteArray,s=⟨(R.take m).toArray⟩:=⟨_,rfl⟩;rw[<-v]at y;have H:=hd1 v;clear v q;have r:=hd1 (f.put u (g-m) (c-m) (by rw[jdt,d.out]) (by rw[jdt,d.out];omega) t);clear t;go_enter func275,ntmps275
 go_wp2_with fail
 go_ret;exact⟨_,rfl,R.drop m,i,.inl ⟨by rw[d.out];omega,by rw[H.out];rfl,rfl,rfl⟩,r.out,qan _ _ _ _⟩
def q5r (R:List UInt8) (wrong:Bool) (c:UInt8) (rb:Nat) (w w':World):Prop:=∃R' wrong',((wrong'=false↔wrong=false/\R=c::R')/\R'.length<=R.length/\(∀r,R=c::r->R'=r))/\Rd w' rb R' wrong'/\yu rb w w'
variable {R':List UInt8} {c:UInt8} {s:ByteArray}
theorem qwk {d f:Bool} (h:qkz R d 1 s R' f) (b:toL s=[c]):R=c::R'/\f=d:=by
 rcases h with ⟨g,a,i,j⟩|⟨_,a,_,_⟩
 ·refine⟨?_,j⟩;cases R with
  |nil=>simp at g
  |cons x R=>
   rw[b]at a
   have e:x=c:=by simpa using a.symm
   rw[i,e];rfl
 rw[a]at b;cases b
theorem qsl {a b:Bool} (h:qkz R a 1 s R' b) (d:¬toL s=[c]) (r:List UInt8):¬R=c::r:=by
 intro e;subst e;rcases h with ⟨_,f,_,_⟩|⟨g,_,_,_⟩
 ·exact d (by rw[f];rfl)
 simp at g;omega
theorem take_length {b d:Bool} {n:Int} (h:qkz R b n s R' d):R'.length<=R.length:=by
 rcases h with ⟨_,_,a,_⟩|⟨_,_,a,_⟩
 ·rw[a,jdt];omega
 rw[a];exact jcd _
theorem qul (d:Nat) (R:List UInt8) (i:Bool) (c:UInt8) (w:World) (p:Rd w d R i) (q:R.length<=1000000):
 Ca 247 #[PP d,.string ⟨#[c]⟩] w λe w'=>e=.returned (.tuple #[])/\q5r R i c d w w':=by
 go_enter func247,ntmps247
 go_wp2_with fail
 refine(qrw d R i 1 w p (by omega) q).mono ?_;rintro e x ⟨s,rfl,R',t,k,f,l⟩;have y:=f.f1;have z:=f.c1;have g:=hd1 k;clear k;by_cases a:toL s=[c]
 ·have u:(s.toList==[c])=true:=by rw[qca,a];simp
  obtain⟨m,n⟩:=qwk g.out a;have b:=hd1 m;have o:=hd1 n;clear m n a
  go_wp2_with fail
  go_end0;exact⟨rfl,R',t,⟨⟨λh=>⟨by rw[<-o.out];exact h,b.out⟩,λh=>by rw[o.out];exact h.1⟩,take_length g.out,λr j=>by have:=b.out.symm.trans j;injection this⟩,f,l⟩
 have u:(s.toList==[c])=false:=by rw[qca];exact beq_eq_false_iff_ne.2 a
 have b:=hd1 (qsl g.out a);have v:=f.bad;clear a
 go_wp2_with fail
 go_end0;exact⟨rfl,R',true,⟨⟨λh=>(by cases h),λh=>absurd h.2 (b.out _)⟩,take_length g.out,λr j=>absurd j (b.out r)⟩,v,l.trans (qan _ _ _ _) (.inl rfl)⟩
def ql0 (R:List UInt8) (wrong:Bool):Bool:=!wrong&&R.isEmpty
theorem qpy (f:Nat) (R:List UInt8) (b:Bool) (w:World) (g:Rd w f R b):
 Ca 251 #[PP f] w (Rn (.bool (ql0 R b)) w):=by
 obtain⟨a,c,d,i,j⟩:=g.rest;have k:=g.c1;cases b
 ·cases R with
  |nil=>
   simp only[List.length_nil]at d;go_enter func251,ntmps251
   go_wp2_with fail
   go_ret;exact⟨rfl,jcc _ _⟩
  |cons x R=>
   simp only[List.length_cons]at d;obtain⟨e,h⟩:∃e,R.length=e:=⟨_,rfl⟩;rw[h]at d;have l:((e:Int)+1==0)=false:=beq_eq_false_iff_ne.2 (by omega);go_enter func251,ntmps251
   go_wp2_with fail
   go_ret;exact⟨rfl,jcc _ _⟩
 go_enter func251,ntmps251
 go_wp2_with fail
 go_ret;exact⟨rfl,jcc _ _⟩
end
section
variable {w w':World} {rb:Nat}
theorem qo.only {b:Nat} {a0 a1 a2 a3:Int} (h:qo w b a0 a1 a2 a3) (a:yu rb w w') (c:b≠rb):qo w' b a0 a1 a2 a3:=by
 have e:=a.block b h.lt (λx=>by injection x with x;exact c x)
 constructor
 ·rw[jch (w:=w) e];exact h.c0
 ·rw[jch (w:=w) e];exact h.c1
 ·rw[jch (w:=w) e];exact h.c2
 ·rw[jch (w:=w) e];exact h.c3
 ·rw[jcp (w:=w) e];exact h.f0
 ·rw[jcp (w:=w) e];exact h.f1
 ·rw[jcp (w:=w) e];exact h.f2
 rw[jcp (w:=w) e];exact h.f3
variable {R:List UInt8}
theorem Rd.lt {a:Bool} (h:Rd w rb R a):rb<w.heap.size:=jcr _ _ h.c1
theorem Rd.kept {f:Bool} (h:Rd w rb R f) (i:∀k,k<w.heap.size->w'.heap[k]?=w.heap[k]?):Rd w' rb R f:=by
 obtain⟨a,c,m,n,d⟩:=h.rest;have e:=i rb h.lt;refine⟨⟨a,c,by rw[jch (w:=w) e];exact m,n,?_⟩,by rw[jch (w:=w) e];exact h.c1,by rw[jcp (w:=w) e];exact h.f0,by rw[jcp (w:=w) e];exact h.f1⟩;rcases d with d|⟨b,o,p,q,r⟩
 ·exact .inl d
 refine .inr ⟨b,o,p,q,λj u s=>?_⟩;have l:=r j u s;rw[jch (w:=w) (i b (jcr _ _ l))];exact l
theorem Rd.alloc {a:Bool} (h:Rd w rb R a) (o:Obj):Rd (w.alloc o) rb R a:=h.kept λk b=>jdg w o k b
theorem Rd.far {f:Bool} (h:Rd w rb R f) (p:Addr) (v:Value) (r:rb<p.block):Rd (w.setCell p v) rb R f:=by
 obtain⟨a,c,i,k,d⟩:=h.rest;have e:=jce w p v rb (by omega);refine⟨⟨a,c,by rw[jch (w:=w) e];exact i,k,?_⟩,by rw[jch (w:=w) e];exact h.c1,by rw[jcp (w:=w) e];exact h.f0,by rw[jcp (w:=w) e];exact h.f1⟩;rcases d with d|⟨b,o,l,m,n⟩
 ·exact .inl d
 refine .inr ⟨b,o,l,m,λj u q=>?_⟩;rw[jch (w:=w) (jce w p v b (by omega))];exact n j u q
variable {g:Nat} {w1:World}
theorem qbf {p:Addr} {v:Value} (h:yu g w w1) (c:w.heap.size<=p.block):yu g w (w1.setCell p v):=
 ⟨h.os,h.tape,h.output,by simpa[World.setCell]using h.size,λk a b=>(jce w1 p v k (by omega)).trans (h.block k a b)⟩
theorem qly {o:Obj} (h:yu g w w1):yu g w (w1.alloc o):=h.trans (g':=g) (yu.ofBelow (boxed (jcc _ _) o)) (.inl rfl)
def q98 (R:List UInt8) (wrong:Bool) (rb:Nat) (w:World) (v0 v1 v2 v3:Int) (w':World):Prop:=
 ∃R0 x0 R1 x1 R2 x2 R3 x3,qbm 1099511627776 R wrong v0 R0 x0/\qbm 1099511627776 R0 x0 v1 R1 x1/\qbm 1099511627776 R1 x1 v2 R2 x2/\qbm 1099511627776 R2 x2 v3 R3 x3/\Rd w' rb R3 x3/\yu rb w w'
theorem qzy (rb:Nat) (R:List UInt8) (u:Bool) (w:World) (G:Rd w rb R u):
 Ca 249 #[PP rb] w λe w'=>
  ∃c d f h,e=.returned (.agg #[U c,U d,U f,U h])/\q98 R u rb w c d f h w':=by
 have aa:=G.lt
 have j:w.heap.size+1≠rb:=by omega
 have k:w.heap.size≠rb:=by omega
 have a:=(qo.new w 77 0 0 0 0).boxed (.cells #[U 0,U 0,U 0,U 0] 77);have RW:qo ((w.alloc (.cells #[U 0,U 0,U 0,U 0] 77)).alloc (.cells #[U 0,U 0,U 0,U 0] 77)) (w.heap.size+1) 0 0 0 0:=qo.newest (by simp);have b:yu rb w ((w.alloc (.cells #[U 0,U 0,U 0,U 0] 77)).alloc (.cells #[U 0,U 0,U 0,U 0] 77)):=qly (qly (yu.refl _ _));go_enter Tryz.func249,Tryz.ntmps249
 go_wp2_with fail
 refine wp_loop_rounds 5 ?_;rw[rounds_succ]
 go_wp2_with fail
 refine(ym rb R u 1099511627776 _ ((G.alloc _).alloc _)).mono ?_;rintro e w1 ⟨c,rfl,H,x0,K,x,y⟩;have L:=hd1 K;replace RW:=RW.only y j;replace a:=a.only y k;replace b:=b.trans y (.inl rfl);replace x:=x.far (AD (w.heap.size+1) 0) (U c) (by show rb<w.heap.size+1;omega);replace b:=qbf (p:=AD (w.heap.size+1) 0) (v:=U c) b (by show w.heap.size<=w.heap.size+1;omega);have i:=RW.set0 c;replace a:=a.far (AD (w.heap.size+1) 0) (U c) (by show w.heap.size+1≠w.heap.size;omega);have l:=RW.c0;have m:=RW.c1;have n:=RW.c2;have o:=RW.c3;have q:=RW.f0;have f1:=RW.f1;have r:=RW.f2;have s:=RW.f3
 go_wp2_with fail
 have RW:=i;rw[rounds_succ]
 go_wp2_with fail
 refine(ym rb H x0 1099511627776 _ x).mono ?_;rintro e w2 ⟨d,rfl,I,x1,M,z,B⟩;have N:=hd1 M;replace RW:=RW.only B j;replace a:=a.only B k;replace b:=b.trans B (.inl rfl);replace z:=z.far (AD (w.heap.size+1) 1) (U d) (by show rb<w.heap.size+1;omega);replace b:=qbf (p:=AD (w.heap.size+1) 1) (v:=U d) b (by show w.heap.size<=w.heap.size+1;omega);have i:=RW.set1 d;replace a:=a.far (AD (w.heap.size+1) 1) (U d) (by show w.heap.size+1≠w.heap.size;omega);have l:=RW.c0;have m:=RW.c1;have n:=RW.c2;have o:=RW.c3;have q:=RW.f0;have f1:=RW.f1;have r:=RW.f2;have s:=RW.f3
 go_wp2_with fail
 have RW:=i;rw[rounds_succ]
 go_wp2_with fail
 refine(ym rb I x1 1099511627776 _ z).mono ?_;rintro e w3 ⟨f,rfl,J,x2,O,C,D⟩;have P:=hd1 O;replace RW:=RW.only D j;replace a:=a.only D k;replace b:=b.trans D (.inl rfl);replace C:=C.far (AD (w.heap.size+1) 2) (U f) (by show rb<w.heap.size+1;omega);replace b:=qbf (p:=AD (w.heap.size+1) 2) (v:=U f) b (by show w.heap.size<=w.heap.size+1;omega);have i:=RW.set2 f;replace a:=a.far (AD (w.heap.size+1) 2) (U f) (by show w.heap.size+1≠w.heap.size;omega);have l:=RW.c0;have m:=RW.c1;have n:=RW.c2;have o:=RW.c3;have q:=RW.f0;have f1:=RW.f1;have r:=RW.f2;have s:=RW.f3
 go_wp2_with fail
 have RW:=i;rw[rounds_succ]
 go_wp2_with fail
 refine(ym rb J x2 1099511627776 _ C).mono ?_;rintro e w4 ⟨h,rfl,Q,x3,S,E,F⟩;have T:=hd1 S;replace RW:=RW.only F j;replace a:=a.only F k;replace b:=b.trans F (.inl rfl);replace E:=E.far (AD (w.heap.size+1) 3) (U h) (by show rb<w.heap.size+1;omega);replace b:=qbf (p:=AD (w.heap.size+1) 3) (v:=U h) b (by show w.heap.size<=w.heap.size+1;omega);have i:=RW.set3 h;replace a:=a.far (AD (w.heap.size+1) 3) (U h) (by show w.heap.size+1≠w.heap.size;omega);have l:=RW.c0;have m:=RW.c1;have n:=RW.c2;have o:=RW.c3;have q:=RW.f0;have f1:=RW.f1;have r:=RW.f2;have s:=RW.f3
 go_wp2_with fail
 have RW:=i;rw[rounds_succ];have V:=(((E.far (AD w.heap.size 0) (U c) (by show rb<w.heap.size;omega)).far (AD w.heap.size 1) (U d) (by show rb<w.heap.size;omega)).far (AD w.heap.size 2) (U f) (by show rb<w.heap.size;omega)).far (AD w.heap.size 3) (U h) (by show rb<w.heap.size;omega);replace b:=qbf (p:=AD w.heap.size 3) (v:=U h) (qbf (p:=AD w.heap.size 2) (v:=U f) (qbf (p:=AD w.heap.size 1) (v:=U d) (qbf (p:=AD w.heap.size 0) (v:=U c) b (jcd _)) (jcd _)) (jcd _)) (jcd _);have t:=a.set (x0:=c) (x1:=d) (x2:=f) (x3:=h);have l:=RW.c0;have m:=RW.c1;have n:=RW.c2;have o:=RW.c3;have k0:=a.c0;have k1:=a.c1;have k2:=a.c2;have k3:=a.c3;have q:=a.f0;have f1:=a.f1;have r:=a.f2;have s:=a.f3
 go_wp2_with fail
 have W:=t.c0;have X:=t.c1;have Y:=t.c2;have Z:=t.c3;exact bodyPost_ret (v:=.agg #[U c,U d,U f,U h]) (by simp[results,Tryz.results249,go_sem,W,X,Y,Z]) rfl ⟨c,d,f,h,rfl,H,x0,I,x1,J,x2,Q,x3,L.out,N.out,P.out,T.out,V,b⟩
end
section
theorem qbm.nonneg {c:Int} {R a:List UInt8} {d e:Bool} {v:Int} (h:qbm c R d v a e):0<=v:=by
 rcases h.2 with ⟨h,_,_⟩|⟨_,h,_⟩
 ·exact(qlk 5 R v a h).1.1
 omega
structure qer (w:World) (b:Nat) (key:Int) (data:ByteArray) (gone:Bool):Prop where
 c0:w.cell? (AD b 0)=some (U key)
 c1:w.cell? (AD b 1)=some (.string data)
 c2:w.cell? (AD b 2)=some (.bool gone)
 f0:w.frozen? (AD b 0)=false
 f1:w.frozen? (AD b 1)=false
 f2:w.frozen? (AD b 2)=false
variable {w:World} {b:Nat}
theorem qer.lt {key:Int} {data:ByteArray} {gone:Bool} (h:qer w b key data gone):b<w.heap.size:=jcr _ _ h.c0
variable {w':World}
theorem qer.kept {key:Int} {data:ByteArray} {gone:Bool} (h:qer w b key data gone) (e:w'.heap[b]?=w.heap[b]?):qer w' b key data gone:=by
 constructor
 ·rw[jch (w:=w) e];exact h.c0
 ·rw[jch (w:=w) e];exact h.c1
 ·rw[jch (w:=w) e];exact h.c2
 ·rw[jcp (w:=w) e];exact h.f0
 ·rw[jcp (w:=w) e];exact h.f1
 rw[jcp (w:=w) e];exact h.f2
theorem qer.only {a:Nat} {key:Int} {data:ByteArray} {gone:Bool} (h:qer w b key data gone) (c:yu a w w') (d:b≠a):qer w' b key data gone:=
 h.kept (c.block b h.lt (λx=>by injection x with x;exact d x))
theorem qer.far {key:Int} {data:ByteArray} {gone:Bool} (h:qer w b key data gone) (p:Addr) (u:Value) (a:p.block≠b):qer (w.setCell p u) b key data gone:=
 h.kept (jce _ _ _ _ (Ne.symm a))
theorem qer.boxed {key:Int} {data:ByteArray} {gone:Bool} (h:qer w b key data gone) (o:Obj):qer (w.alloc o) b key data gone:=
 h.kept (jdg _ _ _ h.lt)
theorem qer.new {T:TypeId} {n:Nat} {key:Int} {data:ByteArray} {gone:Bool} (a:w.heap.size=n):qer (w.alloc (.cells #[U key,.string data,.bool gone] T)) n key data gone:=by
 subst a
 constructor<;>go_simp
theorem qer.set0 {key:Int} {data:ByteArray} {gone:Bool} (h:qer w b key data gone) (x:Int):qer (w.setCell (AD b 0) (U x)) b x data gone:=
 ⟨jc8 _ _ _ h.c0,(jco _ _ _ _ (by simp)).trans h.c1,(jco _ _ _ _ (by simp)).trans h.c2,(jcm _ _ _ _).trans h.f0,(jcm _ _ _ _).trans h.f1,(jcm _ _ _ _).trans h.f2⟩
theorem qer.set1 {key:Int} {data:ByteArray} {gone:Bool} (h:qer w b key data gone) (x:ByteArray):qer (w.setCell (AD b 1) (.string x)) b key x gone:=
 ⟨(jco _ _ _ _ (by simp)).trans h.c0,jc8 _ _ _ h.c1,(jco _ _ _ _ (by simp)).trans h.c2,(jcm _ _ _ _).trans h.f0,(jcm _ _ _ _).trans h.f1,(jcm _ _ _ _).trans h.f2⟩
theorem qer.set2 {key:Int} {data:ByteArray} {gone:Bool} (h:qer w b key data gone) (x:Bool):qer (w.setCell (AD b 2) (.bool x)) b key data x:=
 ⟨(jco _ _ _ _ (by simp)).trans h.c0,(jco _ _ _ _ (by simp)).trans h.c1,jc8 _ _ _ h.c2,(jcm _ _ _ _).trans h.f0,(jcm _ _ _ _).trans h.f1,(jcm _ _ _ _).trans h.f2⟩
def ql5 (R:List UInt8) (wrong:Bool) (key:Int) (data:ByteArray) (gone:Bool) (R':List UInt8) (wrong':Bool):Prop:=
 ∃R0 x0 R1 x1 R2 x2 g n,qbm 7 R wrong key R0 x0/\qbm 1 R0 x0 g R1 x1/\gone=(g==1)/\qbm 12 R1 x1 n R2 x2/\qkz R2 x2 n data R' wrong'
def q2e (R:List UInt8) (wrong:Bool) (rb:Nat) (w:World) (key:Int) (data:ByteArray) (gone:Bool) (w':World):Prop:=
 ∃R' wrong',ql5 R wrong key data gone R' wrong'/\Rd w' rb R' wrong'/\yu rb w w'
theorem q3e (d:Nat) (R:List UInt8) (j:Bool) (w:World) (x:Rd w d R j) (S:R.length<=1000000):
 Ca 250 #[PP d] w λe w'=>
  ∃key data gone,e=.returned (.agg #[U key,.string data,.bool gone])/\q2e R j d w key data gone w':=by
 have V:=x.lt
 have h:w.heap.size+1≠d:=by omega
 have i:w.heap.size≠d:=by omega
 have a:=(qer.new (T:=100) (key:=0) (data:=⟨#[]⟩) (gone:=false) (Eq.refl w.heap.size)).boxed (.cells #[U 0,.string ⟨#[]⟩,.bool false] 100);have RW:qer ((w.alloc (.cells #[U 0,.string ⟨#[]⟩,.bool false] 100)).alloc (.cells #[U 0,.string ⟨#[]⟩,.bool false] 100)) (w.heap.size+1) 0 ⟨#[]⟩ false:=qer.new (by simp);have c:yu d w ((w.alloc (.cells #[U 0,.string ⟨#[]⟩,.bool false] 100)).alloc (.cells #[U 0,.string ⟨#[]⟩,.bool false] 100)):=qly (qly (yu.refl _ _));go_enter Tryz.func250,Tryz.ntmps250
 go_wp2_with fail
 refine(ym d R j 7 _ ((x.alloc _).alloc _)).mono ?_;rintro e W ⟨key,rfl,y,x0,E,k,l⟩;have z:=hd1 E;replace RW:=RW.only l h;replace a:=a.only l i;replace c:=c.trans l (.inl rfl);replace k:=k.far (AD (w.heap.size+1) 0) (U key) (by show d<w.heap.size+1;omega);replace c:=qbf (p:=AD (w.heap.size+1) 0) (v:=U key) c (by show w.heap.size<=w.heap.size+1;omega);have f:=RW.set0 key;replace a:=a.far (AD (w.heap.size+1) 0) (U key) (by show w.heap.size+1≠w.heap.size;omega);have X:=RW.c0;have Y:=RW.f0
 go_wp2_with fail
 have RW:=f;refine(ym d y x0 1 _ k).mono ?_;rintro e w2 ⟨g,rfl,B,x1,F,m,o⟩;have C:=hd1 F;replace RW:=RW.only o h;replace a:=a.only o i;replace c:=c.trans o (.inl rfl);obtain⟨gone,G⟩:∃gone:Bool,(g==1)=gone:=⟨_,rfl⟩;replace m:=m.far (AD (w.heap.size+1) 2) (.bool gone) (by show d<w.heap.size+1;omega);replace c:=qbf (p:=AD (w.heap.size+1) 2) (v:=.bool gone) c (by show w.heap.size<=w.heap.size+1;omega);have f:=RW.set2 gone;replace a:=a.far (AD (w.heap.size+1) 2) (.bool gone) (by show w.heap.size+1≠w.heap.size;omega);have Z:=RW.c2;have f2:=RW.f2
 go_wp2_with fail
 have RW:=f;have H:=hd1 G;refine(ym d B x1 12 _ m).mono ?_;rintro e w3 ⟨n,rfl,D,x2,I,J,q⟩;have r:=hd1 I;replace RW:=RW.only q h;replace a:=a.only q i;replace c:=c.trans q (.inl rfl)
 go_wp2_with fail
 refine(qrw d D x2 n _ J r.out.nonneg (by have:=z.out.1;have:=C.out.1;have:=r.out.1;omega)).mono ?_;rintro e w4 ⟨data,rfl,K,x3,L,s,t⟩;have M:=hd1 L;replace RW:=RW.only t h;replace a:=a.only t i;replace c:=c.trans t (.inl rfl);replace s:=s.far (AD (w.heap.size+1) 1) (.string data) (by show d<w.heap.size+1;omega);replace c:=qbf (p:=AD (w.heap.size+1) 1) (v:=.string data) c (by show w.heap.size<=w.heap.size+1;omega);have f:=RW.set1 data;replace a:=a.far (AD (w.heap.size+1) 1) (.string data) (by show w.heap.size+1≠w.heap.size;omega);have N:=((s.far (AD w.heap.size 0) (U key) (by show d<w.heap.size;omega)).far (AD w.heap.size 1) (.string data) (by show d<w.heap.size;omega)).far (AD w.heap.size 2) (.bool gone) (by show d<w.heap.size;omega);replace c:=qbf (p:=AD w.heap.size 2) (v:=.bool gone) (qbf (p:=AD w.heap.size 1) (v:=.string data) (qbf (p:=AD w.heap.size 0) (v:=U key) c (jcd _)) (jcd _)) (jcd _);have u:=((a.set0 key).set1 data).set2 gone;have c1:=RW.c1;have f1:=RW.f1;have e0:=f.c0;have e1:=f.c1;have e2:=f.c2;have k0:=a.c0;have k1:=a.c1;have k2:=a.c2;have g0:=a.f0;have g1:=a.f1;have g2:=a.f2
 go_wp2_with fail
 have O:=u.c0;have P:=u.c1;have Q:=u.c2;exact bodyPost_ret (v:=.agg #[U key,.string data,.bool gone]) (by simp[results,Tryz.results250,go_sem,O,P,Q]) rfl ⟨key,data,gone,rfl,K,x3,⟨y,x0,B,x1,D,x2,g,n,z.out,C.out,H.out.symm,r.out,M.out⟩,N,c⟩
end
section
variable {R R':List UInt8} {v:Int}
theorem qbm.sound {c:Int} {d e:Bool} (h:qbm c R d v R' e) (f:e=false):d=false/\(0<=v/\v<=c)/\R=qbs 5 v++R':=by
 rcases h.2 with ⟨g,i,b⟩|⟨_,_,b⟩
 ·obtain⟨⟨s0,_⟩,s1⟩:=qlk 5 R v R' g;exact⟨by rw[<-b];exact f,⟨s0,i⟩,s1⟩
 rw[f]at b;cases b
theorem qbm.full {c:Int} {d f:Bool} {n:Int} {r:List UInt8} (h:qbm c R d v R' f) (g:d=false) (i:R=qbs 5 n++r) (j:0<=n) (k:n<=c) (m:c<=1099511627776):v=n/\R'=r/\f=false:=by
 have e:=qtf 5 n r j (by rw[jar];omega);rw[<-i]at e;rcases h.2 with ⟨b,_,l⟩|⟨b,_,_⟩
 ·rw[e]at b;injection b with b;injection b with h4 h5;exact⟨h4.symm,h5.symm,by rw[l,g]⟩
 exact absurd k (b n r e)
def qsj (R:List UInt8) (wrong:Bool) (c:UInt8) (R':List UInt8) (wrong':Bool):Prop:=(wrong'=false↔wrong=false/\R=c::R')/\R'.length<=R.length/\(∀r,R=c::r->R'=r)
theorem qkd {b:Bool}:ql0 R b=true↔b=false/\R=[]:=by cases b<;>simp[ql0]
variable {L:List UInt8}
theorem q22 {q r t u x g:List UInt8} {x0 x1 x2 x3 z i:Bool} {j k l m o:Int} (p:qsj L false 97 q x0) (A:qbm 3 q x0 j r x1) (B:qbm 1099511627776 r x1 k t x2) (C:qbm 1099511627776 t x2 l u x3) (D:qbm 1099511627776 u x3 m x z) (E:qbm 1099511627776 x z o g i):
 (ql0 g i=true->qdj L ⟨j,k,l,m,o⟩)/\(∀y,qdj L y->ql0 g i=true):=by
 constructor
 ·intro h;obtain⟨H,I⟩:=qkd.1 h;obtain⟨J,b,K⟩:=E.sound H;obtain⟨M,c,N⟩:=D.sound J;obtain⟨O,d,P⟩:=C.sound M;obtain⟨Q,f,S⟩:=B.sound O;obtain⟨T,bs,V⟩:=A.sound Q;obtain⟨_,W⟩:=p.1.1 T;refine⟨?_,?_⟩
  ·simp only[qho.ok,jct,jk,jb,qdz];exact⟨⟨bs.1,bs.2⟩,⟨⟨f,d⟩,c⟩,b⟩
  show toL (q1e j k l m o)=L;rw[qhy,W,V,S,P,N,K,I];rfl
 rintro ⟨s,a0,a1,a2,a3⟩ F;obtain⟨bs,f,d,c,b⟩:=qmo F.1;have e:=F.2.symm.trans (qhy s a0 a1 a2 a3);unfold q1a at e;have G:=p.2.2 _ e;have X:=p.1.2 ⟨rfl,by rw[G];exact e⟩;obtain⟨_,Y,Z⟩:=A.full X G bs.1 bs.2 (by decide);obtain⟨_,r2,y2⟩:=B.full Z Y f.1 f.2 (by decide);obtain⟨_,r3,y3⟩:=C.full y2 r2 d.1 d.2 (by decide);obtain⟨_,r4,y4⟩:=D.full y3 r3 c.1 c.2 (by decide);obtain⟨_,r5,y5⟩:=E.full y4 r4 b.1 b.2 (by decide);exact qkd.2 ⟨y5,r5⟩
variable {w:World} {a:Option Addr} {n:Nat}
theorem Rd.new {c T:Nat} (e:w.heap.size=n) (f:L.length<=c) (d:qa5 w n a L):Rd (w.alloc (.cells #[.slice a L.length c,.bool false] T)) n L false:=by
 subst e;refine⟨⟨a,c,by go_simp,f,?_⟩,by go_simp,by go_simp,by go_simp⟩;rcases d with d|⟨b,o,g,h,i⟩
 ·exact .inl d
 refine .inr ⟨b,o,g,h,λj u k=>?_⟩;exact cell_later (boxed (jcc _ _) _) (i j u k)
variable {w':World}
theorem qa5.later {c:Nat} (h:qa5 w n a L) (d:Bw w w') (i:n<=c):qa5 w' c a L:=by
 rcases h with h|⟨b,o,e,k,f⟩
 ·exact .inl h
 exact .inr ⟨b,o,e,by omega,λj u g=>cell_later d (f j u g)⟩
theorem qa1 {g:Nat} {W:World} (h:Bw W w) (b:yu g w w') (c:W.heap.size<=g):Bw W w':=h.trans (b.below c h.size)
def ja1 (L:List UInt8) (w:World) (e:Ending) (w':World):Prop:=
 ((∃x:qho,qdj L x/\e=.returned (.tuple #[U x.site,.agg #[U x.a0,U x.a1,U x.a2,U x.a3],.nilIface]))\/
  ((∀x,¬qdj L x)/\e=.returned (.tuple #[U 0,.agg #[U 0,U 0,U 0,U 0],.iface 26 (U 3)])))/\Bw w w'
theorem qxc (a:Option Addr) (L:List UInt8) (c:Nat) (w:World) (H:qa5 w w.heap.size a L) (I:L.length<=c) (J:L.length<=1000000):
 Ca 211 #[.slice a L.length c] w λe w'=>ja1 L w e w':=by
 have b:=(qo.new w 77 0 0 0 0).boxed (.cells #[.slice a L.length c,.bool false] 301);have D:=Rd.new (w:=w.alloc (.cells #[U 0,U 0,U 0,U 0] 77)) (n:=w.heap.size+1) (T:=301) (by simp) I (H.later (boxed (jcc _ _) _) (by omega));have d:=boxed (boxed (jcc _ w) (.cells #[U 0,U 0,U 0,U 0] 77)) (.cells #[.slice a L.length c,.bool false] 301)
 have l:w.heap.size≠w.heap.size+1:=by omega
 go_enter Tryz.func211,Tryz.ntmps211
 go_wp2_with fail
 refine(qul (w.heap.size+1) L false 97 _ D J).mono ?_;rintro e w1 ⟨rfl,t,x0,u,K,y⟩;have M:Hid (qsj L false 97 t x0):=u;replace b:=b.only y l;replace d:=qa1 d y (by omega)
 go_wp2_with fail
 refine(ym (w.heap.size+1) t x0 3 _ K).mono ?_;rintro e w2 ⟨z,rfl,N,x1,O,P,B⟩;have Q:=hd1 O;replace b:=b.only B l;replace d:=qa1 d B (by omega)
 go_wp2_with fail
 refine(qzy (w.heap.size+1) N x1 _ P).mono ?_;rintro e S ⟨g,h,i,j,rfl,R2,x2,R3,x3,R4,x4,C,E,V,W,X,Y,m,F⟩;have G:=hd1 (q22 M.out Q.out V W X Y);replace b:=b.only F l;replace d:=qa1 d F (by omega);have k:=qo.new S 77 g h i j;replace b:=b.boxed (.cells #[U g,U h,U i,U j] 77);replace m:=m.alloc (.cells #[U g,U h,U i,U j] 77);replace d:=boxed d (.cells #[U g,U h,U i,U j] 77)
 go_wp2_with fail
 refine(qpy (w.heap.size+1) C E _ m).mono ?_;rintro e w4 ⟨rfl,o⟩;replace b:=b.later o;replace k:=k.later o;replace d:=qa d o;have u:=b.c0;have k1:=b.c1;have k2:=b.c2;have k3:=b.c3;have f0:=b.f0;have f1:=b.f1;have f2:=b.f2;have f3:=b.f3;cases hd:ql0 C E
 ·have Z:Hid (∀x,¬qdj L x):=λx hx=>by rw[G.out.2 x hx]at hd;cases hd
  have f:=b.set (x0:=0) (x1:=0) (x2:=0) (x3:=0)
  go_wp2_with fail
  have p:=f.c0;have q:=f.c1;have r:=f.c2;have s:=f.c3;exact bodyPost_ret (v:=.tuple #[U 0,.agg #[U 0,U 0,U 0,U 0],.iface 26 (U 3)]) (by simp[results,Tryz.results211,go_sem,p,q,r,s]) rfl ⟨.inr ⟨Z.out,rfl⟩,(((d.setCell (jcd _) _).setCell (jcd _) _).setCell (jcd _) _).setCell (jcd _) _⟩
 have YES:=hd1 (G.out.1 hd);have c0:=k.c0;have c1:=k.c1;have c2:=k.c2;have c3:=k.c3;have f:=b.set (x0:=g) (x1:=h) (x2:=i) (x3:=j)
 go_wp2_with fail
 go_region
 all_goals (try go_wp2)
 have p:=f.drew.c0;have q:=f.drew.c1;have r:=f.drew.c2;have s:=f.drew.c3;exact bodyPost_ret (v:=.tuple #[U z,.agg #[U g,U h,U i,U j],.nilIface]) (by simp[results,Tryz.results211,go_sem,p,q,r,s]) rfl ⟨.inl ⟨⟨z,g,h,i,j⟩,YES.out,rfl⟩,((((d.setCell (jcd _) _).setCell (jcd _) _).setCell (jcd _) _).setCell (jcd _) _).drew⟩
end
section
variable {R R':List UInt8} {n:Int} {s:ByteArray}
theorem qzd {b c:Bool} (h:qkz R b n s R' c) (d:c=false) (g:0<=n):b=false/\(s.size:Int)=n/\R=toL s++R':=by
 rcases h with ⟨i,e,f,a⟩|⟨_,_,_,a⟩
 ·refine⟨by rw[<-a];exact d,?_,by rw[e,f,jds]⟩
  have:(toL s).length=n.toNat:=by rw[e,jc5];omega
  rw[yh]at this;omega
 rw[d]at a;cases a
variable {r:List UInt8}
theorem q1d {b c:Bool} {d:ByteArray} (h:qkz R b n s R' c) (g:b=false) (m:n=(d.size:Int)) (a:R=toL d++r):s=d/\R'=r/\c=false:=by
 have e:(toL d).length=n.toNat:=by rw[yh];omega
 rcases h with ⟨f,i,j,k⟩|⟨f,_,_,_⟩
 ·refine⟨qsh ?_,?_,by rw[k,g]⟩
  ·rw[i,a,<-e,List.take_left]
  rw[j,a,<-e,List.drop_left]
 rw[a,jcl]at f;omega
theorem qua {a b:Bool} {key:Int} {data:ByteArray} {gone:Bool} (h:ql5 R a key data gone R' b) (d:b=false):a=false/\R=wrL ⟨key,data,gone⟩++R':=by
 obtain⟨y,x0,z,x1,A,x2,g,n,f,i,j,c,t⟩:=h;obtain⟨k,s2,m⟩:=qzd t d c.nonneg;obtain⟨o,_,p⟩:=c.sound k;obtain⟨q,B,u⟩:=i.sound o;obtain⟨e,_,v⟩:=f.sound q;refine⟨e,?_⟩
 have w:g=if gone then 1 else 0:=by
  rw[j]
  have:g=0\/g=1:=by omega
  rcases this with rfl|rfl<;>rfl
 simp only[wrL,jcy];rw[v,u,p,m,<-w,s2]
theorem qy8 {a b:Bool} {key:Int} {data:ByteArray} {gone:Bool} {y:Wr} (h:ql5 R a key data gone R' b) (f:a=false) (c:R=wrL y++r) (d:0<=y.key/\y.key<=7/\y.data.size<=12):
 (⟨key,data,gone⟩:Wr)=y/\R'=r/\b=false:=by
 obtain⟨B,x0,C,x1,D,x2,g,n,i,j,k,m,t⟩:=h;simp only[wrL,jcy]at c;obtain⟨a0,o,p⟩:=i.full f c d.1 d.2.1 (by decide);obtain⟨a1,q,u⟩:=j.full p o (by cases y.gone<;>decide) (by cases y.gone<;>decide) (by decide);obtain⟨a2,v,w⟩:=m.full u q (by omega) (by omega) (by decide);obtain⟨a3,z,A⟩:=q1d t w a2 v;refine⟨?_,z,A⟩;obtain⟨E,F,e⟩:=y;simp only at a0 a1 a3
 have:gone=e:=by
  rw[k,a1]
  cases e<;>rfl
 rw[a0,a3,this]
theorem qs6 {a b:Bool} {key:Int} {data:ByteArray} {gone:Bool} (h:ql5 R a key data gone R' b):R'.length<=R.length:=by
 obtain⟨f,x0,i,x1,j,x2,g,n,c,d,k,e,t⟩:=h;have a0:=c.1;have a1:=d.1;have a2:=e.1;have a3:=take_length t;omega
inductive qvx (R:List UInt8) (x:Bool):List Wr->List UInt8->Bool->Prop
 |nil:qvx R x [] R x
 |snoc {l:List Wr} {R1 R2:List UInt8} {x1 x2:Bool} {key:Int} {data:ByteArray} {gone:Bool}:qvx R x l R1 x1->ql5 R1 x1 key data gone R2 x2->qvx R x (l++[⟨key,data,gone⟩]) R2 x2
theorem q06 (l:List Wr) (x:Wr):qhc (l++[x])=qhc l++wrL x:=by simp[qhc]
variable {x x':Bool} {l:List Wr}
theorem q4z (h:qvx R x l R' x'):x'=false->x=false/\R=qhc l++R':=by
 induction h with
 |nil=>exact λe=>⟨e,rfl⟩
 |snoc _ hw ih=>
  intro e;obtain⟨a,b⟩:=qua hw e;obtain⟨c,d⟩:=ih a;exact⟨c,by rw[d,b,q06,jcy]⟩
theorem q87 {m:List Wr} (h:qvx R x l R' x') (g:x=false) (i:R=qhc m++r) (j:∀y∈m,0<=y.key/\y.key<=7/\y.data.size<=12):
 l.length<=m.length->l=m.take l.length/\R'=qhc (m.drop l.length)++r/\x'=false:=by
 induction h with
 |nil=>exact λ_=>⟨by simp,by simpa using i,g⟩
 |@snoc l R1 R2 x1 x2 key data gone _ hw ih=>
  intro k;rw[jcl,List.length_singleton]at k ⊢;obtain⟨o,f,p⟩:=ih (by omega)
  have d:l.length<m.length:=by omega
  have e:qhc (m.drop l.length)=wrL m[l.length]++qhc (m.drop (l.length+1)):=by
   unfold qhc;rw[jdy d,List.flatMap_cons]
  rw[e,jcy]at f;obtain⟨a,b,c⟩:=qy8 hw p f (j _ (jdr d));refine⟨?_,b,c⟩;rw[a,jc1 d,<-o]
theorem q2u (h:qvx R x l R' x'):R'.length<=R.length:=by
 induction h with
 |nil=>exact jcd _
 |snoc _ hw ih=>exact jcn (qs6 hw) ih
theorem q5s {L A B C D E F G H I J a:List UInt8} {x0 x1 x2 x3 K M N O P Q b:Bool} {c d wall f g i j k S:Int}
 (o:qsj L false 116 A x0) (T:qbm 3 A x0 c B x1) (V:qbm 1099511627776 B x1 d C x2) (W:qbm 1099511627776 C x2 wall D x3) (X:qbm 1099511627776 D x3 f E K)
 (Y:qbm 1099511627776 E K g F M) (Z:qbm 1099511627776 F M i G N) (h7:qbm 1099511627776 G N j H O) (h8:qbm 1099511627776 H O k I P) (h9:qbm 5 I P S J Q) (hW:qvx J Q l a b) (hl:(l.length:Int)=S):
 (ql0 a b=true->toL (txS c d wall f g i j k l)=L)/\(∀y,ql3 L y->ql0 a b=true/\y=⟨c,d,wall,f,g,i,j,k,l⟩):=by
 constructor
 ·intro h;obtain⟨hx,hR⟩:=qkd.1 h;obtain⟨e9,q10⟩:=q4z hW hx;obtain⟨e8,_,q9⟩:=h9.sound e9;obtain⟨e7,_,q8⟩:=h8.sound e8;obtain⟨e6,_,q7⟩:=h7.sound e7;obtain⟨e5,_,q6⟩:=Z.sound e6;obtain⟨e4,_,q5⟩:=Y.sound e5;obtain⟨e3,_,q4⟩:=X.sound e4;obtain⟨e2,_,q3⟩:=W.sound e3;obtain⟨e1,_,q2⟩:=V.sound e2;obtain⟨e0,_,q1⟩:=T.sound e1;obtain⟨_,qk⟩:=o.1.1 e0;rw[qkb,qk,q1,q2,q3,q4,q5,q6,q7,q8,q9,q10,hR,hl,jdx];rfl
 rintro ⟨s,q,wl,ct,a0,a1,a2,a3,m⟩ hy;obtain⟨bs,bq,p,t,u,v,w,z,bm⟩:=qlw hy.1;simp only at bs bq p t u v w z bm;have hlen:=qjz bm;have e:=hy.2.symm.trans (qkb s q wl ct a0 a1 a2 a3 m);unfold qrk at e;have r0:=o.2.2 _ e;have y0:=o.1.2 ⟨rfl,by rw[r0];exact e⟩;obtain⟨z1,r1,y1⟩:=T.full y0 r0 bs.1 bs.2 (by decide);obtain⟨z2,r2,y2⟩:=V.full y1 r1 (by omega) bq.2 (by decide);obtain⟨z3,r3,y3⟩:=W.full y2 r2 p.1 p.2 (by decide);obtain⟨z4,r4,y4⟩:=X.full y3 r3 t.1 t.2 (by decide);obtain⟨z5,r5,y5⟩:=Y.full y4 r4 u.1 u.2 (by decide);obtain⟨z6,r6,y6⟩:=Z.full y5 r5 v.1 v.2 (by decide);obtain⟨z7,r7,y7⟩:=h7.full y6 r6 w.1 w.2 (by decide);obtain⟨z8,r8,y8⟩:=h8.full y7 r7 z.1 z.2 (by decide);obtain⟨z9,r9,y9⟩:=h9.full y8 r8 (by omega) (by omega) (by decide)
 have hlm:l.length=m.length:=by omega
 obtain⟨w1,w2,w3⟩:=q87 (m:=m) (r:=[]) hW y9 (by simpa using r9) (qob bm) (by omega)
 have hlm2:l=m:=by rw[hlm,jc9]at w1;exact w1
 refine⟨qkd.2 ⟨w3,?_⟩,?_⟩
 ·rw[w2,hlm,List.drop_length];rfl
 rw[z1,z2,z3,z4,z5,z6,z7,z8,hlm2]
end
section
variable {w:World} {rb:Nat} {R:List UInt8}
theorem Rd.drew {a:Bool} (h:Rd w rb R a):Rd w.drew rb R a:=h.kept λ_ _=>rfl
variable {w':World}
theorem Rd.grown {f:Bool} {r:Option Nat} (h:Rd w rb R f) (g:w.grownBy w' r) (i:∀k,r=some k->rb<k):Rd w' rb R f:=by
 obtain⟨a,c,m,p,d⟩:=h.rest;have e:=g.block rb h.lt (λx=>by have:=i rb x.symm;omega);refine⟨⟨a,c,by rw[jch (w:=w) e];exact m,p,?_⟩,by rw[jch (w:=w) e];exact h.c1,by rw[jcp (w:=w) e];exact h.f0,by rw[jcp (w:=w) e];exact h.f1⟩;rcases d with d|⟨b,o,q,s,t⟩
 ·exact .inl d
 refine .inr ⟨b,o,q,s,λj u y=>?_⟩;have l:=t j u y;rw[jch (w:=w) (g.block b (jcr _ _ l) (λx=>by have:=i b x.symm;omega))];exact l
variable {B n:Nat} {T:TypeId} {v:Value} {xs:List Value}
theorem q6n (h:w.ownsRow B T 3 v n xs) (a:yu rb w w') (b:rb<B):w'.ownsRow B T 3 v n xs:=by
 refine h.kept a ?_;cases hv:v.ownBlock with
 |none=>exact .inl rfl
 |some k=>
  refine .inr (λe=>?_);injection e with e;have:=(h.lt k hv).1;omega
theorem qq3 (h:w.ownsRow B T 3 v n xs) (a:Bw w w'):w'.ownsRow B T 3 v n xs:=
 h.kept (row:=none) ⟨a.os,a.tape,a.output,a.size,λk b _=>a.block k b⟩ (by cases v.ownBlock<;>simp)
theorem qlm (h:w.ownsRow B T 3 v n xs):∀k,v.ownBlock=some k->B<=k:=λk a=>(h.lt k a).1
theorem q35:(Tryz.prog.info? 100).map (λi=>(i.zero,i.size,i.bytes))=some (some (.agg #[U 0,.string ⟨#[]⟩,.bool false]),3,32):=by kernel_rfl
def txA (site seq wall count d0 d1 d2 d3:Int) (v:Value):List Value:=[U site,U seq,U wall,U count,U d0,U d1,U d2,U d3,v]
def jbi (L:List UInt8) (w:World) (e:Ending) (w':World):Prop:=
 ((∃(x:TxV) (a:Option Addr) (cap:Nat),ql3 L x/\qr w' a cap x.l/\e=.returned (.tuple #[.agg (List.toArray (T9 x.site x.seq x.wall x.count x.d0 x.d1 x.d2 x.d3 a x.l.length cap)),.nilIface]))\/
  ((∀x,¬ql3 L x)/\e=.returned (.tuple #[.agg ZA,.iface 26 (U 3)])))/\Bw w w'
theorem qjt {tmps:Array Value} {b:Nat} {d e f g i j k l m ev:Value} (h:qd w b [d,e,f,g,i,j,k,l,m]) (o:tmps[2]?=some (.pointer (some ⟨b,0,none⟩))) (p:tmps[3]?=some ev)
 (p0:∃n,d=U n) (p1:∃n,e=U n) (p2:∃n,f=U n) (p3:∃n,g=U n) (q:∃n,i=U n) (r:∃n,j=U n) (s:∃n,k=U n) (t:∃n,l=U n) (u:∃a n c,m=.slice a n c):
 (results Tryz.f209 tmps).run Tryz.prog w=.ok (.tuple #[.agg #[d,e,f,g,i,j,k,l,m],ev]) w:=by
 obtain⟨I,rfl⟩:=p0;obtain⟨J,rfl⟩:=p1;obtain⟨K,rfl⟩:=p2;obtain⟨L,rfl⟩:=p3;obtain⟨M,rfl⟩:=q;obtain⟨N,rfl⟩:=r;obtain⟨O,rfl⟩:=s;obtain⟨P,rfl⟩:=t;obtain⟨a,n,c,rfl⟩:=u;obtain⟨x,y,z,C,D,E,F,G,H⟩:=h.c9;simp[results,Tryz.results209,go_sem,o,p,x,y,z,C,D,E,F,G,H]
theorem qq5 (a:Option Addr) (L:List UInt8) (c:Nat) (w:World) (hB:qa5 w w.heap.size a L) (hc:L.length<=c) (hl:L.length<=1000000):
 Ca 209 #[.slice a L.length c] w λe w'=>jbi L w e w':=by
 have q:=(qd.new (w:=w) (T:=102) ZL rfl).boxed (.cells #[.slice a L.length c,.bool false] 301);have D:=Rd.new (w:=w.alloc (.cells ZA 102)) (n:=w.heap.size+1) (T:=301) (by simp) hc (hB.later (boxed (jcc _ _) _) (by omega));have r:=boxed (boxed (jcc _ w) (.cells ZA 102)) (.cells #[.slice a L.length c,.bool false] 301)
 have P:w.heap.size≠w.heap.size+1:=by omega
 go_enter Tryz.func209,Tryz.ntmps209
 go_wp2_with fail
 refine(qul (w.heap.size+1) L false 116 _ D hl).mono ?_;rintro e b ⟨rfl,R0,x0,Y,D0,y0⟩;have K0:Hid (qsj L false 116 R0 x0):=Y;replace q:=(q.only y0 P).boxed (.cells ZA 102);replace r:=boxed (qa1 r y0 (by omega)) (.cells ZA 102);replace D0:=D0.alloc (.cells ZA 102);have o:=qd.new (w:=b) (T:=102) ZL rfl
 have hlt:w.heap.size+1<b.heap.size:=by have:=y0.size;simp at this;omega
 have Q:b.heap.size≠w.heap.size+1:=by omega
 clear Y y0 D
 go_wp2_with fail
 refine(ym (w.heap.size+1) R0 x0 3 _ D0).mono ?_;rintro e w2 ⟨C,rfl,R1,x1,n1,D1,y1⟩;have N1:=hd1 n1;replace q:=q.only y1 P;replace o:=o.only y1 Q;replace r:=qa1 r y1 (by omega);clear n1 y1 D0;have c0:=o.c 0;have f0:=o.f 0;replace q:=q.far ⟨b.heap.size,0,none⟩ (U C) (by show b.heap.size≠w.heap.size;omega);replace o:=o.set 0 (U C) (by simp);replace r:=r.setCell (p:=⟨b.heap.size,0,none⟩) (by show w.heap.size<=b.heap.size;omega) (U C);replace D1:=D1.far ⟨b.heap.size,0,none⟩ (U C) (by show w.heap.size+1<b.heap.size;omega)
 go_wp2_with fail
 clear c0 f0;refine(ym (w.heap.size+1) R1 x1 1099511627776 _ D1).mono ?_;rintro e w3 ⟨E,rfl,R2,x2,n2,D2,y2⟩;have N2:=hd1 n2;replace q:=q.only y2 P;replace o:=o.only y2 Q;replace r:=qa1 r y2 (by omega);clear n2 y2 D1;have c1:=o.c 1;have f1:=o.f 1;replace q:=q.far ⟨b.heap.size,1,none⟩ (U E) (by show b.heap.size≠w.heap.size;omega);replace o:=o.set 1 (U E) (by simp);replace r:=r.setCell (p:=⟨b.heap.size,1,none⟩) (by show w.heap.size<=b.heap.size;omega) (U E);replace D2:=D2.far ⟨b.heap.size,1,none⟩ (U E) (by show w.heap.size+1<b.heap.size;omega)
 go_wp2_with fail
 clear c1 f1;refine(ym (w.heap.size+1) R2 x2 1099511627776 _ D2).mono ?_;rintro e w4 ⟨wall,rfl,R3,x3,n3,D3,y3⟩;have N3:=hd1 n3;replace q:=q.only y3 P;replace o:=o.only y3 Q;replace r:=qa1 r y3 (by omega);clear n3 y3 D2;have c2:=o.c 2;have f2:=o.f 2;replace q:=q.far ⟨b.heap.size,2,none⟩ (U wall) (by show b.heap.size≠w.heap.size;omega);replace o:=o.set 2 (U wall) (by simp);replace r:=r.setCell (p:=⟨b.heap.size,2,none⟩) (by show w.heap.size<=b.heap.size;omega) (U wall);replace D3:=D3.far ⟨b.heap.size,2,none⟩ (U wall) (by show w.heap.size+1<b.heap.size;omega)
 go_wp2_with fail
 clear c2 f2;refine(ym (w.heap.size+1) R3 x3 1099511627776 _ D3).mono ?_;rintro e w5 ⟨F,rfl,R4,x4,n4,D4,y4⟩;have N4:=hd1 n4;replace q:=q.only y4 P;replace o:=o.only y4 Q;replace r:=qa1 r y4 (by omega);clear n4 y4 D3;have c3:=o.c 3;have f3:=o.f 3;replace q:=q.far ⟨b.heap.size,3,none⟩ (U F) (by show b.heap.size≠w.heap.size;omega);replace o:=o.set 3 (U F) (by simp);replace r:=r.setCell (p:=⟨b.heap.size,3,none⟩) (by show w.heap.size<=b.heap.size;omega) (U F);replace D4:=D4.far ⟨b.heap.size,3,none⟩ (U F) (by show w.heap.size+1<b.heap.size;omega)
 go_wp2_with fail
 clear c3 f3;refine(qzy (w.heap.size+1) R4 x4 _ D4).mono ?_;rintro e w6 ⟨G,H,I,J,rfl,R5,x5,R6,x6,R7,x7,R8,x8,m5,m6,m7,m8,M,N⟩;have N5:=hd1 m5;have N6:=hd1 m6;have N7:=hd1 m7;have N8:=hd1 m8;replace q:=q.only N P;replace o:=o.only N Q;replace r:=qa1 r N (by omega);clear m5 m6 m7 m8 N D4;have c4:=o.c 4;have f4:=o.f 4;have c5:=o.c 5;have f5:=o.f 5;have c6:=o.c 6;have f6:=o.f 6;have c7:=o.c 7;have f7:=o.f 7;replace q:=q.far ⟨b.heap.size,4,none⟩ (U G) (by show b.heap.size≠w.heap.size;omega);replace o:=o.set 4 (U G) (by simp);replace r:=r.setCell (p:=⟨b.heap.size,4,none⟩) (by show w.heap.size<=b.heap.size;omega) (U G);replace M:=M.far ⟨b.heap.size,4,none⟩ (U G) (by show w.heap.size+1<b.heap.size;omega);replace q:=q.far ⟨b.heap.size,5,none⟩ (U H) (by show b.heap.size≠w.heap.size;omega);replace o:=o.set 5 (U H) (by simp);replace r:=r.setCell (p:=⟨b.heap.size,5,none⟩) (by show w.heap.size<=b.heap.size;omega) (U H);replace M:=M.far ⟨b.heap.size,5,none⟩ (U H) (by show w.heap.size+1<b.heap.size;omega);replace q:=q.far ⟨b.heap.size,6,none⟩ (U I) (by show b.heap.size≠w.heap.size;omega);replace o:=o.set 6 (U I) (by simp);replace r:=r.setCell (p:=⟨b.heap.size,6,none⟩) (by show w.heap.size<=b.heap.size;omega) (U I);replace M:=M.far ⟨b.heap.size,6,none⟩ (U I) (by show w.heap.size+1<b.heap.size;omega);replace q:=q.far ⟨b.heap.size,7,none⟩ (U J) (by show b.heap.size≠w.heap.size;omega);replace o:=o.set 7 (U J) (by simp);replace r:=r.setCell (p:=⟨b.heap.size,7,none⟩) (by show w.heap.size<=b.heap.size;omega) (U J);replace M:=M.far ⟨b.heap.size,7,none⟩ (U J) (by show w.heap.size+1<b.heap.size;omega)
 go_wp2_with fail
 clear c4 f4 c5 f5 c6 f6 c7 f7;refine(ym (w.heap.size+1) R8 x8 5 _ M).mono ?_;rintro e w7 ⟨nw,rfl,R9,x9,n9,D9,y9⟩;have N9:=hd1 n9;replace q:=q.only y9 P;replace o:=o.only y9 Q;replace r:=qa1 r y9 (by omega);clear n9 y9 M;have RTX:qd w7 b.heap.size (txA C E wall F G H I J (.slice none 0 0)):=o;have hsz:b.heap.size+1<=w7.heap.size:=o.lt;clear o;have nw0:=N9.out.nonneg
 have hlen9:R9.length<=1000000:=by
  have a0:=K0.out.2.1;have a1:=N1.out.1;have a2:=N2.out.1;have a3:=N3.out.1;have a4:=N4.out.1;have a5:=N5.out.1;have a6:=N6.out.1;have a7:=N7.out.1;have a8:=N8.out.1;have a9:=N9.out.1;omega
 obtain⟨m,rfl⟩:∃m:Nat,nw=m:=⟨nw.toNat,by omega⟩
 have hm5:m<=5:=by
  rcases N9.out.2 with ⟨_,h,_⟩|⟨_,h,_⟩<;>omega
 clear nw0
 go_wp2_with fail
 go_loopw [30] (λiv wr=>∃(k:Nat) (z:Int) (l:List Wr) (R:List UInt8) (x:Bool) (v:Value),k<=m/\z=k/\iv=U z/\l.length=k/\qvx R9 x9 l R x/\qd wr b.heap.size (txA C E wall F G H I J v)/\wr.ownsRow (b.heap.size+1) 100 3 v l.length (qcf l)/\Rd wr (w.heap.size+1) R x/\qd wr w.heap.size ZL/\Bw w wr/\b.heap.size+1<=wr.heap.size) (λi _=>m-(intOf i).toNat)
 case atStart=>exact⟨0,0,[],R9,x9,.slice none 0 0,by omega,rfl,rfl,rfl,.nil,RTX,jcx _ _ _ _,D9,q,r,hsz⟩
 clear RTX D9 q r hsz;obtain⟨k,z,l,R,x,v,hk,hz,rfl,hlk,hws,o,own,D,q,r,hsz⟩:=hrel;have HWS:=hd1 hws;have HLK:=hd1 hlk
 have hl5:l.length<=5:=by omega
 clear hws hlk;by_cases hlt2:k<m
 ·have h1:z<(m:Int):=by omega
  have h3:0<=z:=by omega
  have HZ:=hd1 hz;clear hz;have hlenR:=jcn (q2u HWS.out) hlen9;have c8:=o.c 8;obtain⟨i0,hi,hz0,hz1,hz2⟩:=info_parts q35
  go_wp2_with fail
  go_region_law (first
   |(refine je rfl 250 #[.pointer (some ⟨w.heap.size+1,0,none⟩)] (by go_simp) (q3e (w.heap.size+1) R x _ D.drew hlenR) ?_
     rintro e w8 ⟨key,data,gone,rfl,R',x',wi,D',N⟩;refine⟨_,rfl,?_⟩;have WI:=hd1 wi;have t:=o.drew.only N Q;have d:=q.drew.only N P;have O:=qa1 r.drew N (by omega);have Z:=q6n (w:=wr.drew) own N (by omega);have c8b:=t.c 8;have hlt8:=t.lt
     clear wi N)
   |(refine step_append_lies _ rfl (.tmp 33) (.tmp 36) 88 rfl (b.heap.size+1) 100 i0 (.agg #[U 0,.string ⟨#[]⟩,.bool false]) 3 32 Tryz.underlying88 hi hz0 hz1 hz2 rfl (by decide) v l.length (qcf l) (by simp[Act.eval]) (Z.alloc _) ⟨w8.heap.size,0,none⟩ 1 1 (wrC ⟨key,data,gone⟩) (by simp[Act.eval]) rfl (World.news_of_block (heap_alloc_new w8 (.cells #[U key,.string data,.bool gone] 100))) (by intro u hu;simp[wrC]at hu;rcases hu with rfl|rfl|rfl<;>rfl) (by decide) (by simp only[maxLen];omega) (by omega) (by simp;omega) _ rfl ?_
     intro g cap w9 own9 gr9 eg9 lt9;have RT9:=(t.boxed (.cells #[U key,.string data,.bool gone] 100)).grown gr9 (λe=>by have:=qlm Z _ e.symm;omega);have RV9:=(d.boxed (.cells #[U key,.string data,.bool gone] 100)).grown gr9 (λe=>by have:=qlm Z _ e.symm;omega);have D9:=(D'.alloc (.cells #[U key,.string data,.bool gone] 100)).grown gr9 (λj hj=>by have:=qlm Z _ hj;omega);have K:=(boxed O (.cells #[U key,.string data,.bool gone] 100)).grown gr9 (by have:=O.size;simp;omega) (λj hj=>by have:=qlm Z _ hj;omega);have c8c:=RT9.c 8
     have f8c:=RT9.free 8 (by simp[txA])))
  all_goals
   have RT10:qd (w9.setCell ⟨b.heap.size,8,none⟩ (.slice (some ⟨g,0,none⟩) (l.length+1) cap)) b.heap.size (txA C E wall F G H I J (.slice (some ⟨g,0,none⟩) (l.length+1) cap)):=RT9.set 8 (.slice (some ⟨g,0,none⟩) (l.length+1) cap) (by simp[txA]);have RV10:=RV9.far ⟨b.heap.size,8,none⟩ (.slice (some ⟨g,0,none⟩) (l.length+1) cap) (by show b.heap.size≠w.heap.size;omega);have D10:=D9.far ⟨b.heap.size,8,none⟩ (.slice (some ⟨g,0,none⟩) (l.length+1) cap) (by show w.heap.size+1<b.heap.size;omega);have hb10:=K.setCell (p:=⟨b.heap.size,8,none⟩) (by show w.heap.size<=b.heap.size;omega) (.slice (some ⟨g,0,none⟩) (l.length+1) cap);have own10:=ownsRow_setCell_below own9 (a:=⟨b.heap.size,8,none⟩) (by show b.heap.size<b.heap.size+1;omega) (.slice (some ⟨g,0,none⟩) (l.length+1) cap)
   go_wp2_with fail
   go_roundw
   case rel=>exact⟨k+1,z+1,l++[⟨key,data,gone⟩],R',x',_,by omega,by have:=HZ.out;omega,by go_num,by have:=HLK.out;simp;omega,.snoc HWS.out WI.out,RT10,by rw[qkh,jcl];exact own10,D10,RV10,hb10,by have:=RT10.lt;omega⟩
   simp[intOf];omega
 obtain rfl:k=m:=by omega
 have CH:=hd1 (q5s K0.out N1.out N2.out N3.out N4.out N5.out N6.out N7.out N8.out N9.out HWS.out (by have:=HLK.out;omega));obtain⟨S,V,rfl,X⟩:=qbg own;have OWN:=hd1 own;clear own
 go_wp2_with fail
 refine(qpy (w.heap.size+1) R x _ D).mono ?_;rintro e w8 ⟨rfl,O⟩;have d:=q.later O;have t:=o.later O;replace X:=X.later O;replace OWN:Hid (w8.ownsRow (b.heap.size+1) 100 3 (.slice S l.length V) l.length (qcf l)):=qq3 OWN.out O;have W:=qa r O;clear O D q o;cases hd:ql0 R x
 ·have NO:Hid (∀y,¬ql3 L y):=λy hy=>by rw[(CH.out.2 y hy).1]at hd;cases hd
  clear hd;have RZ:=(((((((((d.set 0 (U 0) (by simp)).set 1 (U 0) (by simp)).set 2 (U 0) (by simp)).set 3 (U 0) (by simp)).set 4 (U 0) (by simp)).set 5 (U 0) (by simp)).set 6 (U 0) (by simp)).set 7 (U 0) (by simp)).set 8 (.slice none 0 0) (by simp));have hbZ:=(((((((((W.setCell (p:=⟨w.heap.size,0,none⟩) (jcd _) (U 0)).setCell (p:=⟨w.heap.size,1,none⟩) (jcd _) (U 0)).setCell (p:=⟨w.heap.size,2,none⟩) (jcd _) (U 0)).setCell (p:=⟨w.heap.size,3,none⟩) (jcd _) (U 0)).setCell (p:=⟨w.heap.size,4,none⟩) (jcd _) (U 0)).setCell (p:=⟨w.heap.size,5,none⟩) (jcd _) (U 0)).setCell (p:=⟨w.heap.size,6,none⟩) (jcd _) (U 0)).setCell (p:=⟨w.heap.size,7,none⟩) (jcd _) (U 0)).setCell (p:=⟨w.heap.size,8,none⟩) (jcd _) (.slice none 0 0));have Y:=d.c 0;have g0:=d.f 0;have k1:=d.c 1;have g1:=d.f 1;have k2:=d.c 2;have g2:=d.f 2;have k3:=d.c 3;have g3:=d.f 3;have k4:=d.c 4;have g4:=d.f 4;have k5:=d.c 5;have g5:=d.f 5;have k6:=d.c 6;have g6:=d.f 6;have k7:=d.c 7;have g7:=d.f 7;have k8:=d.c 8;have g8:=d.f 8
  go_wp2_with fail
  refine bodyPost_ret (v:=.tuple #[.agg ZA,.iface 26 (U 3)]) (qjt RZ rfl rfl ⟨_,rfl⟩ ⟨_,rfl⟩ ⟨_,rfl⟩ ⟨_,rfl⟩ ⟨_,rfl⟩ ⟨_,rfl⟩ ⟨_,rfl⟩ ⟨_,rfl⟩ ⟨_,_,_,rfl⟩) rfl ⟨.inr ⟨NO.out,rfl⟩,hbZ⟩
 have HD:=hd1 hd;clear hd;obtain⟨c0,c1,c2,c3,c4,c5,c6,c7,c8⟩:=t.c9;cases ho:jt C E wall F G H I J l
 ·have NO:Hid (∀y,¬ql3 L y):=λy hy=>by
   have h1:=(CH.out.2 y hy).2;have h2:=hy.1;rw[h1]at h2;rw[show TxV.ok ⟨C,E,wall,F,G,H,I,J,l⟩=jt C E wall F G H I J l from rfl,ho]at h2;cases h2
  have HO:=hd1 ho;clear ho
  go_wp2_with fail
  refine(qex X HO.out).mono ?_;rintro e w9 ⟨rfl,K⟩;replace d:=d.later K;replace W:=qa W K;clear K t X c0 c1 c2 c3 c4 c5 c6 c7 c8;have RZ:=(((((((((d.set 0 (U 0) (by simp)).set 1 (U 0) (by simp)).set 2 (U 0) (by simp)).set 3 (U 0) (by simp)).set 4 (U 0) (by simp)).set 5 (U 0) (by simp)).set 6 (U 0) (by simp)).set 7 (U 0) (by simp)).set 8 (.slice none 0 0) (by simp));have hbZ:=(((((((((W.setCell (p:=⟨w.heap.size,0,none⟩) (jcd _) (U 0)).setCell (p:=⟨w.heap.size,1,none⟩) (jcd _) (U 0)).setCell (p:=⟨w.heap.size,2,none⟩) (jcd _) (U 0)).setCell (p:=⟨w.heap.size,3,none⟩) (jcd _) (U 0)).setCell (p:=⟨w.heap.size,4,none⟩) (jcd _) (U 0)).setCell (p:=⟨w.heap.size,5,none⟩) (jcd _) (U 0)).setCell (p:=⟨w.heap.size,6,none⟩) (jcd _) (U 0)).setCell (p:=⟨w.heap.size,7,none⟩) (jcd _) (U 0)).setCell (p:=⟨w.heap.size,8,none⟩) (jcd _) (.slice none 0 0));have Y:=d.c 0;have g0:=d.f 0;have k1:=d.c 1;have g1:=d.f 1;have k2:=d.c 2;have g2:=d.f 2;have k3:=d.c 3;have g3:=d.f 3;have k4:=d.c 4;have g4:=d.f 4;have k5:=d.c 5;have g5:=d.f 5;have k6:=d.c 6;have g6:=d.f 6;have k7:=d.c 7;have g7:=d.f 7;have k8:=d.c 8;have g8:=d.f 8
  go_wp2_with fail
  refine bodyPost_ret (v:=.tuple #[.agg ZA,.iface 26 (U 3)]) (qjt RZ rfl rfl ⟨_,rfl⟩ ⟨_,rfl⟩ ⟨_,rfl⟩ ⟨_,rfl⟩ ⟨_,rfl⟩ ⟨_,rfl⟩ ⟨_,rfl⟩ ⟨_,rfl⟩ ⟨_,_,_,rfl⟩) rfl ⟨.inr ⟨NO.out,rfl⟩,hbZ⟩
 have YES:Hid (ql3 L ⟨C,E,wall,F,G,H,I,J,l⟩):=⟨ho,CH.out.1 HD.out⟩;have HO:=hd1 ho;clear ho
 go_wp2_with fail
 refine(qex X HO.out).mono ?_;rintro e w9 ⟨rfl,K⟩;replace d:=d.later K;replace t:=t.later K;have s:=qq3 OWN.out K;replace W:=qa W K;clear K;replace c0:=t.c 0;replace c1:=t.c 1;replace c2:=t.c 2;replace c3:=t.c 3;replace c4:=t.c 4;replace c5:=t.c 5;replace c6:=t.c 6;replace c7:=t.c 7;replace c8:=t.c 8;have RZ:=(((((((((d.set 0 (U C) (by simp)).set 1 (U E) (by simp)).set 2 (U wall) (by simp)).set 3 (U F) (by simp)).set 4 (U G) (by simp)).set 5 (U H) (by simp)).set 6 (U I) (by simp)).set 7 (U J) (by simp)).set 8 (.slice S l.length V) (by simp));replace s:=ownsRow_setCell_below s (a:=⟨w.heap.size,0,none⟩) (by show w.heap.size<b.heap.size+1;omega) (U C);replace s:=ownsRow_setCell_below s (a:=⟨w.heap.size,1,none⟩) (by show w.heap.size<b.heap.size+1;omega) (U E);replace s:=ownsRow_setCell_below s (a:=⟨w.heap.size,2,none⟩) (by show w.heap.size<b.heap.size+1;omega) (U wall);replace s:=ownsRow_setCell_below s (a:=⟨w.heap.size,3,none⟩) (by show w.heap.size<b.heap.size+1;omega) (U F);replace s:=ownsRow_setCell_below s (a:=⟨w.heap.size,4,none⟩) (by show w.heap.size<b.heap.size+1;omega) (U G);replace s:=ownsRow_setCell_below s (a:=⟨w.heap.size,5,none⟩) (by show w.heap.size<b.heap.size+1;omega) (U H);replace s:=ownsRow_setCell_below s (a:=⟨w.heap.size,6,none⟩) (by show w.heap.size<b.heap.size+1;omega) (U I);replace s:=ownsRow_setCell_below s (a:=⟨w.heap.size,7,none⟩) (by show w.heap.size<b.heap.size+1;omega) (U J);replace s:=ownsRow_setCell_below s (a:=⟨w.heap.size,8,none⟩) (by show w.heap.size<b.heap.size+1;omega) (.slice S l.length V);obtain⟨a2,cap2,ea,hW2⟩:=qbg s;injection ea with e1 _ e3;subst e1 e3;have HW2:Hid (qr _ S V l):=hW2;clear hW2 s X OWN;have hbZ:=(((((((((W.setCell (p:=⟨w.heap.size,0,none⟩) (jcd _) (U C)).setCell (p:=⟨w.heap.size,1,none⟩) (jcd _) (U E)).setCell (p:=⟨w.heap.size,2,none⟩) (jcd _) (U wall)).setCell (p:=⟨w.heap.size,3,none⟩) (jcd _) (U F)).setCell (p:=⟨w.heap.size,4,none⟩) (jcd _) (U G)).setCell (p:=⟨w.heap.size,5,none⟩) (jcd _) (U H)).setCell (p:=⟨w.heap.size,6,none⟩) (jcd _) (U I)).setCell (p:=⟨w.heap.size,7,none⟩) (jcd _) (U J)).setCell (p:=⟨w.heap.size,8,none⟩) (jcd _) (.slice S l.length V))
 have Y:=d.c 0;have g0:=d.f 0;have k1:=d.c 1;have g1:=d.f 1;have k2:=d.c 2;have g2:=d.f 2;have k3:=d.c 3;have g3:=d.f 3;have k4:=d.c 4;have g4:=d.f 4;have k5:=d.c 5;have g5:=d.f 5;have k6:=d.c 6;have g6:=d.f 6;have k7:=d.c 7;have g7:=d.f 7;have k8:=d.c 8;have g8:=d.f 8
 go_wp2_with fail
 refine bodyPost_ret (v:=.tuple #[.agg (List.toArray (T9 C E wall F G H I J S l.length V)),.nilIface]) (qjt RZ rfl rfl ⟨_,rfl⟩ ⟨_,rfl⟩ ⟨_,rfl⟩ ⟨_,rfl⟩ ⟨_,rfl⟩ ⟨_,rfl⟩ ⟨_,rfl⟩ ⟨_,rfl⟩ ⟨_,_,_,rfl⟩) rfl ⟨.inl ⟨⟨C,E,wall,F,G,H,I,J,l⟩,S,V,YES.out,HW2.out,rfl⟩,hbZ⟩
end
section
def qkt (S:ByteArray) (ns:List Int):ByteArray:=ns.foldl (λs n=>s++qcq 5 n) S
theorem qph {S:ByteArray} {ns:List Int} {k:Nat} (hk:k<ns.length):qkt S (ns.take (k+1))=qkt S (ns.take k)++qcq 5 (ns.getD k 0):=by
 unfold qkt;rw[jc1 hk,List.foldl_append];simp[List.getD,List.getElem?_eq_getElem hk]
theorem qiz (S:ByteArray) (ns:List Int):∀k,k<=ns.length->(qkt S (ns.take k)).size<=S.size+6*k
 |0,_=>by simp[qkt]
 |k+1,hk=>by
  rw[qph (by omega),jc4];have a:=qiz S ns k (by omega);have b:=vo 5 (ns.getD k 0);omega
variable {m:Int}
theorem jb7 (h0:0<=m):IntKind.i64.wrap (m.tmod 128)=m%128:=by
 rw[Int.tmod_eq_emod_of_nonneg h0];unfold IntKind.wrap;simp[IntKind.signed,IntKind.bits];omega
theorem jcb (h0:0<=m) (hm:m<=1099511627776):IntKind.i64.wrap (m.tdiv 128)=m/128:=by
 rw[Int.tdiv_eq_ediv_of_nonneg h0];unfold IntKind.wrap;simp[IntKind.signed,IntKind.bits];omega
theorem qtv:(Tryz.prog.info? 5).map (λi=>(i.zero,i.size,i.bytes))=some (some (.int .u8 0),1,1):=by kernel_rfl
theorem qct (B g cap:Nat) (S:ByteArray) (lb lo lc:Nat) (ns:List Int) (w:World) (hO:Own w B g cap S) (hB:B<=w.heap.size) (hne:lb≠g)
 (hC:∀i,i<ns.length->w.cell? (AD lb (lo+i))=some (U (ns.getD i 0))) (hr:∀i,i<ns.length->0<=ns.getD i 0/\ns.getD i 0<=1099511627776) (hs:S.size+6*ns.length<=900000):
 Ca 204 #[.slice (PT g) S.size cap,.slice (some (AD lb lo)) ns.length lc] w λe w'=>
  ∃S' g' cap',e=.returned (.slice (PT g') S'.size cap')/\S'=qkt S ns/\Own w' B g' cap' S'/\(g'=g\/w.heap.size<=g')/\yu g w w':=by
 have HC:=hd1 hC;have HR:=hd1 hr;clear hC hr;go_enter Tryz.func204,Tryz.ntmps204
 go_wp2_with fail
 go_loopw [0,9] (λbv i wr=>∃(k:Nat) (z:Int) (S':ByteArray) (g' cap':Nat),k<=ns.length/\z=k/\i=U z/\bv=.slice (PT g') S'.size cap'/\S'=qkt S (ns.take k)/\Own wr B g' cap' S'/\(g'=g\/w.heap.size<=g')/\yu g w wr) (λ_ i _=>ns.length-(intOf i).toNat)
 case atStart=>exact⟨0,0,S,g,cap,by omega,rfl,rfl,rfl,rfl,hO,.inl rfl,yu.refl _ _⟩
 obtain⟨k,z,S1,g1,c1,hk,hz,rfl,rfl,hS1,O1,e1,y1⟩:=hrel;have HS1:=hd1 hS1;clear hS1
 have hsz1:S1.size<=S.size+6*k:=by rw[HS1.out];exact qiz S ns k hk
 by_cases hlt:k<ns.length
 ·have x0:=y1.cell (HC.out k hlt) hne;obtain⟨r0,r1⟩:=HR.out k hlt
  have h1:z<(ns.length:Int):=by omega
  have h2:z.toNat=k:=by omega
  have h3:0<=z:=by omega
  have HZ:=hd1 hz;clear hz;have HN:=qph (S:=S) hlt;obtain⟨n,hn⟩:∃n,ns.getD k 0=n:=⟨_,rfl⟩;rw[hn]at x0 r0 r1 HN;rw[<-HS1.out]at HN;obtain⟨T,hT⟩:∃T,T=S1++qcq 5 n:=⟨_,rfl⟩;rw[<-hT]at HN;have HN2:=hd1 HN;have HT:=hd1 hT;clear HN hT hn
  have hszT:T.size<=S.size+6*k+6:=by rw[HT.out,jc4];have:=vo 5 n;omega
  go_wp2_with fail
  go_loopw [0,6] (λbv nv wi=>∃(m:Int) (f:Nat) (S2:ByteArray) (g2 c2:Nat),nv=U m/\bv=.slice (PT g2) S2.size c2/\0<=m/\m<=1099511627776/\m<128^(f+1)/\S2++qcq f m=T/\Own wi B g2 c2 S2/\(g2=g\/w.heap.size<=g2)/\yu g w wi) (λ_ nv _=>(intOf nv).toNat)
  case atStart=>exact⟨n,5,S1,g1,c1,rfl,rfl,r0,r1,by have e:(128:Int)^(5+1)=4398046511104:=by decide
                                                    rw[e];omega,HT.out.symm,O1,e1,y1⟩
  obtain⟨m,f,S2,g2,c2,rfl,rfl,m0,m1,mf,hT2,O2,e2,y2⟩:=hrel;have HT2:=hd1 hT2;clear hT2
  have hszS:S2.size<=T.size:=by rw[<-HT2.out,jc4];omega
  have q:=jcb m0 m1;have r:=jb7 m0;by_cases hm:127<m
  ·obtain⟨f,rfl⟩:∃f',f=f'+1:=by
        cases f with
        |zero=>simp at mf;omega
        |succ f=>exact⟨f,rfl⟩
   have MF:=hd1 mf;clear mf
   have hc:(wr.alloc (.cells #[.int .u8 (m%128+128)] 5)).cell? (AD wr.heap.size 0)=some (.int .u8 (m%128+128)):=by go_simp
   go_wp2_with (at_builtin;refine qbn rfl (.tmp 15) (.tmp 20) 30 30 5 rfl Tryz.underlying30 qtv rfl (O2.alloc _) (qft (m%128+128)) _ rfl (q0w Tryz.underlying30 (by omega) (by omega) 1 hc) (by rw[qcx];omega) (by have:=y2.size;simp;omega) ?_;intro S3 g3 c3 w3 hS3 O3 e3 y3)
   go_roundw
   case rel=>
        have h128:(128:Int)^(f+1+1)=128^(f+1)*128:=Int.pow_succ 128 (f+1);have hmf:=MF.out;rw[h128]at hmf;have y4:=(yu.ofBelow (boxed (jcc _ _) _)).trans y3 (.inl rfl);refine⟨m/128,f,S3,g3,c3,rfl,rfl,by omega,by omega,by omega,?_,O3,?_,y2.trans y4 e2⟩
        ·rw[hS3.out,<-HT2.out,qr8 (by omega),ByteArray.append_assoc]
        rcases e3 with rfl|rfl
        ·exact e2
        exact .inr (by have:=y2.size;simp;omega)
   simp[intOf];omega
  have hc:(wr.alloc (.cells #[.int .u8 m] 5)).cell? (AD wr.heap.size 0)=some (.int .u8 m):=by go_simp
  have MF:=hd1 mf;clear mf
  go_wp2_with (at_builtin;refine qbn rfl (.tmp 24) (.tmp 27) 30 30 5 rfl Tryz.underlying30 qtv rfl (O2.alloc _) (qft m) _ rfl (q0w Tryz.underlying30 (by omega) (by omega) 1 hc) (by rw[qcx];omega) (by have:=y2.size;simp;omega) ?_;intro S3 g3 c3 w3 hS3 O3 e3 y3)
  go_roundw
  case rel=>
   have y4:=(yu.ofBelow (boxed (jcc _ _) _)).trans y3 (.inl rfl);refine⟨k+1,z+1,S3,g3,c3,by omega,by have:=HZ.out;omega,by go_num,rfl,?_,O3,?_,y2.trans y4 e2⟩
   ·rw[hS3.out,HN2.out,<-HT2.out,qtw (by omega)]
   rcases e3 with rfl|rfl
   ·exact e2
   exact .inr (by have:=y2.size;simp;omega)
  simp[intOf];omega
 have e:k=ns.length:=by omega
 go_wp2_with fail
 go_ret;exact⟨S1,g1,c1,rfl,by rw[HS1.out,e,jc9],O1,e1,y1⟩
end
theorem qj7 (S:ByteArray) (ns:List Int):(qkt S ns).size<=S.size+6*ns.length:=by
 have:=qiz S ns ns.length (jcd _)
 rwa [jc9]at this
theorem q7s (g:Bool):qcq 5 (if g then 1 else 0)=qv6 g:=by cases g<;>rfl
theorem q85 (S:ByteArray) (key:Int) (data:ByteArray) (gone:Bool):qkt S [key,if gone then 1 else 0,(data.size:Int)]++data=stepS S ⟨key,data,gone⟩:=by
 show S++qcq 5 key++qcq 5 (if gone then 1 else 0)++qcq 5 (data.size:Int)++data=S++qcq 5 key++qv6 gone++(qcq 5 (data.size:Int)++data);rw[q7s,ByteArray.append_assoc (b:=qcq 5 (data.size:Int))]
theorem q6b (d f wall j m o q r:Int) (a:Option Addr) (cap:Nat) (l:List Wr) (w:World) (K:qr w a cap l) (h:jt d f wall j m o q r l=true):
 Ca 246 #[.agg (List.toArray (T9 d f wall j m o q r a l.length cap))] w λe w'=>
  ∃S g cp,e=.returned (.tuple #[.slice (PT g) S.size cp,.nilIface])/\S=txS d f wall j m o q r l/\Own w' w.heap.size g cp S/\Bw w w':=by
 have kc:=λ(w:World) (C:Array Value) (n c:Nat)=>Lib.run_convert_bytes_const (P:=Tryz.prog) w 30 5 C n c Tryz.underlying30 Tryz.underlying5;have H:=hd1 h;have ht:=h;simp only[jt,jct,jk,jb,qdz]at ht;obtain⟨⟨⟨⟨⟨ts,tq⟩,tw,tc⟩,⟨⟨t0,t1⟩,t2⟩,t3⟩,_⟩,hok⟩:=ht;have TS:=hd4 ts tq tw tc;have TD:=hd4 t0 t1 t2 t3;have HLEN:=hd1 (qjz hok);have hall:=hd1 (qkl hok);clear hok ts tq tw tc t0 t1 t2 t3 h
 have c0:(w.alloc (.cells (List.toArray (T9 d f wall j m o q r a l.length cap)) 102)).cell? (AD w.heap.size 0)=some (U d):=by go_simp
 have c1:(w.alloc (.cells (List.toArray (T9 d f wall j m o q r a l.length cap)) 102)).cell? (AD w.heap.size 1)=some (U f):=by go_simp
 have c2:(w.alloc (.cells (List.toArray (T9 d f wall j m o q r a l.length cap)) 102)).cell? (AD w.heap.size 2)=some (U wall):=by go_simp
 have c3:(w.alloc (.cells (List.toArray (T9 d f wall j m o q r a l.length cap)) 102)).cell? (AD w.heap.size 3)=some (U j):=by go_simp
 have N:(w.alloc (.cells (List.toArray (T9 d f wall j m o q r a l.length cap)) 102)).cell? (AD w.heap.size 4)=some (U m):=by go_simp
 have O:(w.alloc (.cells (List.toArray (T9 d f wall j m o q r a l.length cap)) 102)).cell? (AD w.heap.size 5)=some (U o):=by go_simp
 have Q:(w.alloc (.cells (List.toArray (T9 d f wall j m o q r a l.length cap)) 102)).cell? (AD w.heap.size 6)=some (U q):=by go_simp
 have R:(w.alloc (.cells (List.toArray (T9 d f wall j m o q r a l.length cap)) 102)).cell? (AD w.heap.size 7)=some (U r):=by go_simp
 have D:(w.alloc (.cells (List.toArray (T9 d f wall j m o q r a l.length cap)) 102)).cell? (AD w.heap.size 8)=some (.slice a l.length cap):=by go_simp
 go_enter Tryz.func246,Tryz.ntmps246
 go_wp2_with fail
 refine(qex (K.later (boxed (jcc _ _) _)) H.out).mono ?_;rintro e t ⟨rfl,v⟩;replace c0:=cell_later v c0;replace c1:=cell_later v c1;replace c2:=cell_later v c2;replace c3:=cell_later v c3;replace N:=cell_later v N;replace O:=cell_later v O;replace Q:=cell_later v Q;replace R:=cell_later v R;replace D:=cell_later v D;have hbw:=qa (boxed (jcc _ _) _) v;replace K:=K.later hbw;clear v;have hlt:w.heap.size<t.heap.size:=jcr _ _ c0;have T:=hd1 hlt
 go_wp2_with fail
 refine(qct t.heap.size t.heap.size 1 (qft 116) (t.heap.size+1) 0 4 [d,f,wall,j] _ ((Own.one t t.heap.size _ (by omega) (by omega) (jcd _)).alloc _) (by simp;omega) (by omega) ?_ ?_ (by rw[qcx];simp)).mono ?_
 ·intro i hi
  have s:i=0\/i=1\/i=2\/i=3:=by simp at hi;omega
  rcases s with rfl|rfl|rfl|rfl<;>go_simp
 ·intro i hi
  have s:i=0\/i=1\/i=2\/i=3:=by simp at hi;omega
  obtain⟨V,W,q2,q3⟩:=TS.out;rcases s with rfl|rfl|rfl|rfl
  ·exact⟨V.1,Int.le_trans V.2 (by decide)⟩
  ·exact⟨Int.le_trans (by decide) W.1,W.2⟩
  ·exact q2
  exact q3
 rintro e w2 ⟨S1,g1,cap1,rfl,hS1,O1,e1,X⟩;have HS1:=hd1 hS1;have y:=(boxed (boxed (jcc _ _) _) _).trans (X.below (jcd _) (by simp;omega));have HG:=hd1 O1.base
 have hz1:S1.size<=25:=by rw[HS1.out];exact qj7 (qft 116) [d,f,wall,j]
 clear hS1 X e1;replace N:=cell_later y N;replace O:=cell_later y O;replace Q:=cell_later y Q;replace R:=cell_later y R;replace D:=cell_later y D;clear c0 c1 c2 c3
 go_wp2_with fail
 refine(qct t.heap.size g1 cap1 S1 w.heap.size 4 4 [m,o,q,r] w2 O1 y.size (by have:=HG.out;have:=T.out;omega) ?_ ?_ ?_).mono ?_
 ·intro i hi
  have s:i=0\/i=1\/i=2\/i=3:=by simp at hi;omega
  rcases s with rfl|rfl|rfl|rfl
  ·exact N
  ·exact O
  ·exact Q
  exact R
 ·intro i hi
  have s:i=0\/i=1\/i=2\/i=3:=by simp at hi;omega
  obtain⟨V,W,q2,q3⟩:=TD.out;rcases s with rfl|rfl|rfl|rfl
  ·exact V
  ·exact W
  ·exact q2
  exact q3
 ·exact jcn (Nat.add_le_add_right hz1 _) (by simp)
 rintro e w3 ⟨S2,g2,cap2,rfl,hS2,O2,e2,Y⟩;have HS2:=hd1 hS2;have Z:=y.trans (Y.below HG.out y.size)
 have hz2:S2.size<=49:=by rw[HS2.out];exact jcn (qj7 S1 [m,o,q,r]) (Nat.add_le_add_right hz1 24)
 have HG2:=hd1 O2.base;replace D:w3.cell? (AD w.heap.size 8)=some (.slice a l.length cap):=(Y.below (B:=t.heap.size) HG.out y.size).cell (p:=AD w.heap.size 8) T.out▸D;clear hS2 Y e2 y N O Q R
 go_wp2_with fail
 refine(qct t.heap.size g2 cap2 S2 w3.heap.size 0 1 [(l.length:Int)] _ (O2.alloc _) (by have:=Z.size;simp;omega) (by have:=O2.lt;omega) ?_ ?_ ?_).mono ?_
 ·intro i hi
  obtain rfl:i=0:=by simpa using hi
  go_simp
 ·intro i hi
  obtain rfl:i=0:=by simpa using hi
  have:=HLEN.out;show 0<=(l.length:Int)/\(l.length:Int)<=1099511627776;omega
 ·exact jcn (Nat.add_le_add_right hz2 _) (by simp)
 rintro e w4 ⟨S3,g3,cap3,rfl,hS3,O3,e3,y3⟩
 have HS3:Hid (S3=qnh d f wall j m o q r l.length):=by show S3=_;rw[hS3,HS2.out,HS1.out];rfl
 have hb34:=((jcc _ _).alloc Z.size _).trans (y3.below HG2.out (by have:=Z.size;simp;omega));have hb4:=Z.trans hb34;replace D:w4.cell? (AD w.heap.size 8)=some (.slice a l.length cap):=hb34.cell (p:=AD w.heap.size 8) T.out▸D
 obtain⟨b,off,rfl,C⟩:∃b off,a=some (AD b off)/\qbo t b off l:=by
  rcases K.held with h0|h0
  ·have:=HLEN.out;rw[h0]at this;simp at this
  exact h0
 have hcap:=K.cap;have hlc:=K.len;clear K hS3 y3 e3 hb34 O2 hz2 HG2 HG O1 hz1 Z
 go_wp2_with fail
 clear D
 go_loopw [4,39] (λbv i wr=>∃(k:Nat) (z:Int) (S':ByteArray) (g' cap':Nat),k<=l.length/\z=k/\i=U z/\bv=.slice (PT g') S'.size cap'/\S'=wrS (qnh d f wall j m o q r l.length) (l.take k)/\Own wr t.heap.size g' cap' S'/\Bw t wr) (λ_ i _=>l.length-(intOf i).toNat)
 case atStart=>exact⟨0,0,S3,g3,cap3,by omega,rfl,rfl,rfl,HS3.out,O3,hb4⟩
 clear O3 hb4;obtain⟨k,z,F,g5,cap5,hk,hz,rfl,rfl,hS5,G,u⟩:=hrel;have HS5:=hd1 hS5;clear hS5
 have hsz:F.size<=55+25*k:=by
  rw[HS5.out];exact jcn (qor hall.out k hk) (Nat.add_le_add_right (qos _ _ _ _ _ _ _ _ _) _)
 have hlen:=HLEN.out;by_cases hlt2:k<l.length
 ·obtain⟨x0,x1,x2⟩:=(C.later u) k hlt2
  have h1:z<(l.length:Int):=by omega
  have h2:z.toNat=k:=by omega
  have h3:0<=z:=by omega
  have HZ:=hd1 hz;clear hz;have hkey:=qoy (hall.out k hlt2);have hsize:=qmq (hall.out k hlt2);obtain⟨⟨key,data,gone⟩,hx⟩:∃x,qa7 l k=x:=⟨_,rfl⟩;rw[hx]at x0 x1 x2 hkey hsize;have HX:=hd1 hx;clear hx;simp only at x0 x1 x2 hkey hsize;obtain⟨V,W⟩:=hkey
  have E:Hid (∀I,I=qkt F [key,if gone then 1 else 0,(data.size:Int)]->I++data=wrS (qnh d f wall j m o q r l.length) (l.take (k+1))):=λI h6=>by
   rw[h6,q85,qu5 hlt2,HX.out,HS5.out]
  obtain⟨J,hgi⟩:∃J:Int,J=if gone then 1 else 0:=⟨_,rfl⟩
  rw[<-hgi]at E
  have Hgi:Hid (0<=J/\J<=1):=by
   show 0<=J/\J<=1;rw[hgi]
   cases gone<;>decide
  have X:(wr.alloc (.cells #[U key,.string data,.bool gone] 100)).cell? (AD wr.heap.size 1)=some (.string data):=by go_simp
  have y1':((wr.alloc (.cells #[U key,.string data,.bool gone] 100)).alloc (.cells #[U key,U J,U (data.size:Int)] 3)).cell? (AD wr.heap.size 1)=some (.string data):=by go_simp
  cases gone
  ·obtain rfl:J=0:=hgi
   go_wp2_with fail
   refine(qct t.heap.size g5 cap5 F (wr.heap.size+1) 0 3 [key,0,(data.size:Int)] _ ((G.alloc _).alloc _) (by have:=u.size;simp;omega) (by have:=G.lt;omega) ?_ ?_ ?_).mono ?_
   ·intro i hi
    have s:i=0\/i=1\/i=2:=by simp at hi;omega
    rcases s with rfl|rfl|rfl<;>go_simp
   ·intro i hi
    have s:i=0\/i=1\/i=2:=by simp at hi;omega
    rcases s with rfl|rfl|rfl
    ·show 0<=key/\key<=1099511627776;omega
    ·show (0:Int)<=0/\(0:Int)<=1099511627776
     decide
    show 0<=(data.size:Int)/\(data.size:Int)<=1099511627776;omega
   ·simp;omega
   rintro e w6 ⟨I,g6,cap6,rfl,hS6,O6,e6,L⟩;have HS6:=hd1 hS6
   have hz6:I.size<=F.size+18:=by rw[HS6.out];exact qj7 F [key,0,(data.size:Int)]
   have M:=(u.trans (((jcc _ _).alloc u.size _).alloc (by have:=u.size;simp;omega) _)).trans (L.below G.base (by have:=u.size;simp;omega));have Y:=L.cell y1' (by have:=G.lt;show wr.heap.size≠g5;omega);clear hS6 L e6 X y1'
   go_wp2_with (at_builtin;refine qbn rfl (.tmp 54) (.tmp 56) 30 9 5 rfl Tryz.underlying30 qtv rfl O6 data _ rfl (Src.ofString _ Tryz.underlying9 data) (by omega) M.size ?_;intro S7 g7 cap7 w7 hS7 O7 e7 y7)
   go_roundw
   case rel=>exact⟨k+1,z+1,S7,g7,cap7,by omega,by have:=HZ.out;omega,by go_num,rfl,by rw[hS7.out];exact E.out I HS6.out,O7,M.trans (y7.below O6.base M.size)⟩
   simp[intOf];omega
  obtain rfl:J=1:=hgi
  go_wp2_with fail
  refine(qct t.heap.size g5 cap5 F (wr.heap.size+1) 0 3 [key,1,(data.size:Int)] _ ((G.alloc _).alloc _) (by have:=u.size;simp;omega) (by have:=G.lt;omega) ?_ ?_ ?_).mono ?_
  ·intro i hi
   have s:i=0\/i=1\/i=2:=by simp at hi;omega
   rcases s with rfl|rfl|rfl<;>go_simp
  ·intro i hi
   have s:i=0\/i=1\/i=2:=by simp at hi;omega
   rcases s with rfl|rfl|rfl
   ·show 0<=key/\key<=1099511627776;omega
   ·show (0:Int)<=1/\(1:Int)<=1099511627776
    decide
   show 0<=(data.size:Int)/\(data.size:Int)<=1099511627776;omega
  ·simp;omega
  rintro e w6 ⟨I,g6,cap6,rfl,hS6,O6,e6,L⟩;have HS6:=hd1 hS6
  have hz6:I.size<=F.size+18:=by rw[HS6.out];exact qj7 F [key,1,(data.size:Int)]
  have M:=(u.trans (((jcc _ _).alloc u.size _).alloc (by have:=u.size;simp;omega) _)).trans (L.below G.base (by have:=u.size;simp;omega));have Y:=L.cell y1' (by have:=G.lt;show wr.heap.size≠g5;omega);clear hS6 L e6 X y1'
  go_wp2_with (at_builtin;refine qbn rfl (.tmp 54) (.tmp 56) 30 9 5 rfl Tryz.underlying30 qtv rfl O6 data _ rfl (Src.ofString _ Tryz.underlying9 data) (by omega) M.size ?_;intro S7 g7 cap7 w7 hS7 O7 e7 y7)
  go_roundw
  case rel=>exact⟨k+1,z+1,S7,g7,cap7,by omega,by have:=HZ.out;omega,by go_num,rfl,by rw[hS7.out];exact E.out I HS6.out,O7,M.trans (y7.below O6.base M.size)⟩
  simp[intOf];omega
 have e:k=l.length:=by omega
 go_wp2_with fail
 go_ret2;exact⟨F,g5,cap5,rfl,by rw[HS5.out,e,jc9];rfl,G.mono (by have:=T.out;omega),hbw.trans (u.mono (by have:=T.out;omega))⟩
theorem q17 (a a0 a1 a2 a3:Int) (w:World) (h:inB a 0 3=true) (p:jb a0 a1 a2 a3=true):
 Ca 142 #[U a,.agg #[U a0,U a1,U a2,U a3]] w λe w'=>
  ∃S g cap,e=.returned (.tuple #[.slice (PT g) S.size cap,.nilIface])/\S=q1e a a0 a1 a2 a3/\Own w' w.heap.size g cap S/\Bw w w':=by
 have H:=hd1 h;have G:=hd1 p;have t:=jk.1 h;have q:=p;simp only[jb,jct,qdz]at q;have I:=hd1 q;have J:=hd1 t;clear h p q t;have X:=λ(w:World) (C:Array Value) (n c:Nat)=>Lib.run_convert_bytes_const (P:=Tryz.prog) w 30 5 C n c Tryz.underlying30 Tryz.underlying5;obtain⟨b,d,f,j,_,_,_,_⟩:=qo.new w 77 a0 a1 a2 a3;go_enter Tryz.func142,Tryz.ntmps142
 go_wp2_with fail
 refine(qhv H.out _).mono ?_;rintro e Y ⟨rfl,k⟩;replace b:=cell_later k b;replace d:=cell_later k d;replace f:=cell_later k f;replace j:=cell_later k j
 go_wp2_with fail
 refine(qh7 G.out _).mono ?_;rintro e w2 ⟨rfl,l⟩;replace b:=cell_later l b;replace d:=cell_later l d;replace f:=cell_later l f;replace j:=cell_later l j;have u:w.heap.size<w2.heap.size:=jcr _ _ b;have o:=qa (qa (boxed (jcc _ _) _) k) l;clear k l;have r:=hd1 u;clear u
 go_wp2_with fail
 have v:((w2.alloc (.cells #[.int .u8 97] 5 (1,2))).alloc (.cells #[U a] 3)).cell? (AD (w2.heap.size+1) 0)=some (U a):=by go_simp
 refine(qct w2.heap.size w2.heap.size 1 (qft 97) (w2.heap.size+1) 0 1 [a] _ ((Own.one w2 w2.heap.size _ (by omega) (by omega) (jcd _)).alloc _) (by simp;omega) (by omega) ?_ ?_ (by rw[qcx];simp)).mono ?_
 ·intro i hi
  obtain rfl:i=0:=by simpa using hi
  exact v
 ·intro i hi
  obtain rfl:i=0:=by simpa using hi
  show 0<=a/\a<=1099511627776;have:=J.out;omega
 rintro e K ⟨x,L,M,rfl,y,z,N,B⟩;have D:=hd1 y;have m:=(boxed (boxed (jcc _ _) _) _).trans (B.below (jcd _) (by simp;omega));have E:=hd1 z.base;clear y v B N;replace b:=cell_later m b;replace d:=cell_later m d;replace f:=cell_later m f;replace j:=cell_later m j;replace o:=qa o m
 go_wp2_with fail
 refine(qct w2.heap.size L M x w.heap.size 0 4 [a0,a1,a2,a3] K z m.size (by have:=E.out;have:=r.out;omega) ?_ ?_ ?_).mono ?_
 ·intro i hi
  have s:i=0\/i=1\/i=2\/i=3:=by simp at hi;omega
  rcases s with rfl|rfl|rfl|rfl
  ·exact b
  ·exact d
  ·exact f
  exact j
 ·intro i hi
  have s:i=0\/i=1\/i=2\/i=3:=by simp at hi;omega
  have:=I.out;rcases s with rfl|rfl|rfl|rfl
  ·exact this.1.1.1
  ·exact this.1.1.2
  ·exact this.1.2
  exact this.2
 ·have:x.size<=7:=by
   rw[D.out];have:=qiz (qft 97) [a] 1 (jcd _);simpa[qcx]using this
  simp;omega
 rintro e Z ⟨O,Q,R,rfl,F,T,e2,V⟩;have W:=hd1 F;clear F
 go_wp2_with fail
 go_ret2;refine⟨O,Q,R,rfl,?_,T.mono (by have:=r.out;omega),o.trans (V.below (by have:=E.out;have:=r.out;omega) o.size)⟩;rw[W.out,D.out];rfl
section
theorem qr6 (S:ByteArray) (j:Nat) (u:UInt8) (h:(toL S)[j]?=some u):(byteCells S)[j]?=some (.int .u8 u.toNat):=by
 unfold byteCells;rw[jcv];show ((toL S)[j]?).map _=_;rw[h];rfl
variable {w:World} {B g:Nat} {S:ByteArray}
theorem Own.bytes {cap:Nat} (h:Own w B g cap S) (r:Nat):qa5 w w.heap.size (PT g) ((toL S).take r):=by
 refine .inr ⟨g,0,rfl,h.lt,λj u a=>?_⟩;rw[Nat.zero_add];refine h.have_ j _ (qr6 S j u ?_);rw[List.getElem?_take]at a;split at a
 ·exact a
 cases a
theorem Own.all {cap:Nat} (h:Own w B g cap S):qa5 w w.heap.size (PT g) (toL S):=by
 have:=h.bytes (toL S).length
 rwa [jc9]at this
variable {L:List UInt8}
theorem qy2 {x:TxV} (d:ql3 L x) (a:Option Addr) (b c:Nat) (h:L.length=b) (w:World) (i:qa5 w w.heap.size a L) (j:b<=c) (k:b<=1000000):
 Ca 209 #[.slice a b c] w λe w'=>∃a2 f,e=.returned (.tuple #[.agg (List.toArray (T9 x.site x.seq x.wall x.count x.d0 x.d1 x.d2 x.d3 a2 x.l.length f)),.nilIface])/\qr w' a2 f x.l/\Bw w w':=by
 subst h;refine(qq5 a L c w i j k).mono λe w' m=>?_;rcases m with ⟨⟨y,n,o,p,q,r⟩|⟨s,_⟩,t⟩
 ·obtain rfl:=q6h d p;exact⟨n,o,r,q,t⟩
 exact absurd d (s x)
theorem q08 (f:∀x,¬ql3 L x) (a:Option Addr) (b c:Nat) (h:L.length=b) (w:World) (i:qa5 w w.heap.size a L) (j:b<=c) (k:b<=1000000):
 Ca 209 #[.slice a b c] w (Rn (.tuple #[.agg ZA,.iface 26 (U 3)]) w):=by
 subst h;refine(qq5 a L c w i j k).mono λe w' l=>?_;rcases l with ⟨⟨y,o,p,m,q,d⟩|⟨r,d⟩,n⟩
 ·exact absurd m (f y)
 exact⟨d,n⟩
theorem qws {x:qho} (d:qdj L x) (a:Option Addr) (b c:Nat) (f:L.length=b) (w:World) (h:qa5 w w.heap.size a L) (i:b<=c) (j:b<=1000000):
 Ca 211 #[.slice a b c] w (Rn (.tuple #[U x.site,.agg #[U x.a0,U x.a1,U x.a2,U x.a3],.nilIface]) w):=by
 subst f;refine(qxc a L c w h i j).mono λe w' k=>?_;rcases k with ⟨⟨y,l,m⟩|⟨n,_⟩,o⟩
 ·obtain rfl:=qwl d l;exact⟨m,o⟩
 exact absurd d (n x)
theorem qvb {a a0 a1 a2 a3:Int} (h:qho.ok ⟨a,a0,a1,a2,a3⟩=true) (w:World):
 Ca 142 #[U a,.agg #[U a0,U a1,U a2,U a3]] w λe w'=>∃S g b,e=.returned (.tuple #[.slice (PT g) S.size b,.nilIface])/\(qdj (toL S) ⟨a,a0,a1,a2,a3⟩/\0<S.size)/\S.size<=1000000/\Own w' w.heap.size g b S/\Bw w w':=by
 have d:inB a 0 3=true/\jb a0 a1 a2 a3=true:=by simpa[qho.ok]using h
 refine(q17 a a0 a1 a2 a3 w d.1 d.2).mono λe w' ⟨S,g,b,f,c,O,i⟩=>⟨S,g,b,f,⟨⟨h,by rw[c];rfl⟩,?_⟩,?_,O,i⟩
 ·rw[c,<-yh,qhy];simp[q1a]
 rw[c];have j:=vo 5 a;have k:=vo 5 a0;have l:=vo 5 a1;have m:=vo 5 a2;have n:=vo 5 a3;have z:(⟨#[97]⟩:ByteArray).size=1:=rfl;simp only[q1e,jc4];omega
theorem qw5 {b c wall d f i j k:Int} {a:Option Addr} {cap:Nat} {l:List Wr} (p:qr w a cap l) (h:jt b c wall d f i j k l=true):
 Ca 246 #[.agg (List.toArray (T9 b c wall d f i j k a l.length cap))] w λe w'=>∃S g m,e=.returned (.tuple #[.slice (PT g) S.size m,.nilIface])/\(ql3 (toL S) ⟨b,c,wall,d,f,i,j,k,l⟩/\0<S.size)/\S.size<=1000000/\Own w' w.heap.size g m S/\Bw w w':=by
 refine(q6b b c wall d f i j k a cap l w p h).mono λe w' ⟨S,g,m,q,n,O,r⟩=>⟨S,g,m,q,⟨⟨h,by rw[n];rfl⟩,?_⟩,?_,O,r⟩
 ·rw[n,<-yh,qkb];simp[qrk]
 have o:=(qlw (x:=⟨b,c,wall,d,f,i,j,k,l⟩) h).2.2.2.2.2.2.2.2;have t:=qjz o;simp only at t;have u:=qor (s:=qnh b c wall d f i j k l.length) (qkl o) l.length (jcd _);have v:=qos b c wall d f i j k l.length;rw[jc9]at u;rw[n];unfold txS;omega
end
section
def qum (b:Nat) (x:Int):List Value:=[PP b,U x]
def zt (bp:Nat->Nat) (x:Nat->Int) (n:Nat):List Value:=(List.range n).flatMap (λi=>qum (bp i) (x i))
structure GrM where
 g:GrS
 blk:Nat
 cap:Nat
 S:ByteArray
def qpe (m:GrM):List Value:=[U m.g.tj,.slice (PT m.blk) m.S.size m.cap]
def qap (l:List GrM):List Value:=l.flatMap qpe
def txv (t:TxP):TxV:=⟨t.site,t.seq,t.wall,t.count,t.d0,t.d1,t.d2,t.d3,t.ws⟩
def jaw (L:List UInt8):GrB->Prop
 |.tx t=>ql3 L (txv t)
 |.ask site a0 a1 a2 a3=>qdj L ⟨site,a0,a1,a2,a3⟩
structure GrM.Ok (w:World) (m:GrM):Prop where
 own:Own w 0 m.blk m.cap m.S
 size:m.S.size<=1000000
 is:jaw (toL m.S) m.g.body
variable {w:World} {m:GrM}
theorem GrM.Ok.kept {w':World} (h:m.Ok w) (a:w'.heap[m.blk]?=w.heap[m.blk]?) (c:w.heap.size<=w'.heap.size):m.Ok w':=⟨h.own.kept a c,h.size,h.is⟩
theorem qjw {α:Type} (f:α->List Value) (a:∀x,(f x).length=2):∀(l:List α) (i r:Nat) (x:α) (u:Value),l[i]?=some x->(f x)[r]?=some u->(l.flatMap f)[i*2+r]?=some u
 |[],i,r,x,u,h,_=>by simp at h
 |y::l,0,r,x,u,h,hu=>by
  have e:y=x:=by simpa using h
  subst e
  have c:r<2:=by have:=(jck.1 hu).1;rw[a]at this;exact this
  rw[List.flatMap_cons,Nat.zero_mul,Nat.zero_add,jc3 (by rw[a];exact c)];exact hu
 |y::l,i+1,r,x,u,h,hu=>by
  have d:l[i]?=some x:=by simpa using h
  rw[List.flatMap_cons,jc0 (by rw[a];omega),a,show (i+1)*2+r-2=i*2+r by omega];exact qjw f a l i r x u d hu
variable {n i:Nat}
theorem qea {bp:Nat->Nat} {x:Nat->Int} (hi:i<n):(zt bp x n)[i*2]?=some (PP (bp i))/\(zt bp x n)[i*2+1]?=some (U (x i)):=
 ⟨qjw _ (λ_=>rfl) _ i 0 i _ (List.getElem?_range hi) rfl,qjw _ (λ_=>rfl) _ i 1 i _ (List.getElem?_range hi) rfl⟩
theorem qtm {l:List GrM} (hi:l[i]?=some m):(qap l)[i*2]?=some (U m.g.tj)/\(qap l)[i*2+1]?=some (.slice (PT m.blk) m.S.size m.cap):=
 ⟨qjw _ (λ_=>rfl) _ i 0 m _ hi rfl,qjw _ (λ_=>rfl) _ i 1 m _ hi rfl⟩
theorem qkr (bp:Nat->Nat) (x:Nat->Int):∀n,(zt bp x n).length=n*2
 |0=>rfl
 |n+1=>by
  unfold zt;rw[List.range_succ,List.flatMap_append,jcl];have:=qkr bp x n;unfold zt at this;rw[this];simp[qum];omega
theorem qgz (l:List GrM):(qap l).length=l.length*2:=by
 induction l with
 |nil=>rfl
 |cons x l ih=>
  show (qpe x++qap l).length=_;rw[jcl,ih];simp[qpe];omega
structure jbd (w:World) (a:Option Addr) (cap n:Nat) (L:List Value):Prop where
 len:n<=cap
 cap:cap<=9223372036854775807
 held:n=0\/∃g,a=some (AD g 0)/\g<w.heap.size/\∀j u,L[j]?=some u->w.cell? (AD g j)=some u
variable {k:Nat}
theorem qq {B:Nat} {T:TypeId} {v:Value} {L:List Value} (h:w.ownsRow B T k v n L):∃a cap,v=.slice a n cap/\jbd w a cap n L:=by
 have c:=h;rcases h.2 with ⟨rfl,d⟩|⟨g,cap,cur,rfl,p,q,f,l,r,s⟩
 ·exact⟨none,0,by rw[d],⟨by omega,by omega,.inl d⟩⟩
 refine⟨_,cap,rfl,⟨f,by simp only[maxLen]at l;omega,.inr ⟨g,rfl,(c.lt g rfl).2,λj u o=>?_⟩⟩⟩;have e:=c.cells (g:=g) rfl j u o;rw[qal]at e;exact e
structure WoM where
 pv:Value
 cv:Value
 nv:Value
 bp:Nat->Nat
 bs:Nat->Nat
 l:List GrM
def qfw (b:Nat) (M:WoM) (k:Nat):Prop:=k=b\/M.pv.ownBlock=some k\/M.cv.ownBlock=some k\/M.nv.ownBlock=some k\/∃m∈M.l,m.blk=k
def qci (M:WoM) (W:WoS):Nat->qfr:=λi=>if i<W.n then qfp (M.bp i) (W.S i)else qix (M.bs (i-W.n)) (W.ses (i-W.n))
structure PWo (w:World) (b:Nat) (M:WoM) (W:WoS) (Gs:Nat->Nat->Prop):Prop where
 box:qd w b [M.pv,M.cv,M.nv,U W.lost]
 pr:w.ownsRow 0 167 2 M.pv W.n (zt M.bp W.wall W.n)
 cr:w.ownsRow 0 171 2 M.cv W.c (zt M.bs (λk=>(W.at_ k:Int)) W.c)
 nr:w.ownsRow 0 205 2 M.nv M.l.length (qap M.l)
 nl:M.l.map (·.g)=W.net
 gr:∀m∈M.l,m.Ok w
 fam:zh w (W.n+W.c) (qci M W) Gs (qfw b M) (W.n+W.c) NoY
 sb:M.pv.ownBlock≠some b/\M.cv.ownBlock≠some b/\M.nv.ownBlock≠some b
 sr:∀k,(M.pv.ownBlock=some k->M.cv.ownBlock≠some k/\M.nv.ownBlock≠some k)/\(M.cv.ownBlock=some k->M.nv.ownBlock≠some k)
 sg:∀m∈M.l,m.blk≠b/\M.pv.ownBlock≠some m.blk/\M.cv.ownBlock≠some m.blk/\M.nv.ownBlock≠some m.blk
section
variable {w w':World} {b:Nat} {M:WoM} {W:WoS} {Gs:Nat->Nat->Prop}
theorem PWo.site (h:PWo w b M W Gs) (hi:i<W.n):PS w (M.bp i) (Gs i) (W.S i):=by
 have:=h.fam.is i (by omega);unfold qci at this;rw[if_pos hi]at this;exact this
theorem PWo.sess (h:PWo w b M W Gs) (a:k<W.c):PSe w (M.bs k) (Gs (W.n+k)) (W.ses k):=by
 have:=h.fam.is (W.n+k) (by omega);unfold qci at this;rw[if_neg (by omega),show W.n+k-W.n=k by omega]at this;exact this
theorem PWo.keep (h:PWo w b M W Gs) {W':WoS} {d:Nat->Nat->Prop} (a:jg (qfw b M) w w') (l:zh w' (W.n+W.c) (qci M W') d (qfw b M) (W.n+W.c) NoY) (f:W'.n=W.n) (g:W'.c=W.c) (o:W'.wall=W.wall) (p:W'.at_=W.at_) (q:W'.net=W.net) (r:W'.lost=W.lost):PWo w' b M W' d:=by
 refine⟨?_,?_,?_,qf h.nr (λk e=>a.block k (.inr (.inr (.inr (.inl e))))),by rw[q];exact h.nl,λm j=>(h.gr m j).kept (a.block _ (.inr (.inr (.inr (.inr ⟨m,j,rfl⟩))))) a.size,by rw[f,g];exact l,h.sb,h.sr,h.sg⟩
 ·rw[r];exact h.box.keeps a (.inl rfl)
 ·rw[f,o];exact qf h.pr (λk e=>a.block k (.inr (.inl e)))
 rw[g,p];exact qf h.cr (λk e=>a.block k (.inr (.inr (.inl e))))
end
def qmp (b:Nat) (M:WoM) (N:Nat) (Gs:Nat->Nat->Prop) (k:Nat):Prop:=qfw b M k\/∃i,i<N/\Gs i k
def PW (w:World) (b:Nat) (G:Nat->Prop) (W:WoS):Prop:=∃M Gs,PWo w b M W Gs/\∀k,G k↔qmp b M (W.n+W.c) Gs k
section
variable {w w':World} {b:Nat} {G:Nat->Prop} {M:WoM} {W:WoS} {Gs:Nat->Nat->Prop}
theorem PWo.ltF (h:PWo w b M W Gs):∀k,qfw b M k->k<w.heap.size:=λk a=>(h.fam.free k a).1
theorem PWo.ltG (h:PWo w b M W Gs) (hi:i<W.n+W.c) (a:Gs i k):k<w.heap.size:=(qci M W i).lt _ _ (h.fam.is i hi) k a
theorem PW.lt (h:PW w b G W):∀k,G k->k<w.heap.size:=by
 obtain⟨M,Gs,h,a⟩:=h;intro k c;rcases(a k).1 c with q|⟨i,hi,q⟩
 ·exact h.ltF k q
 exact h.ltG hi q
theorem PW.kept (h:PW w b G W) (f:∀k,G k->w'.heap[k]?=w.heap[k]?) (c:w.heap.size<=w'.heap.size):PW w' b G W:=by
 obtain⟨M,Gs,h,d⟩:=h;have a:=λk q=>f k ((d k).2 (.inl q));refine⟨M,Gs,⟨h.box.kept (a b (.inl rfl)) c,qf h.pr (λk e=>a k (.inr (.inl e))),qf h.cr (λk e=>a k (.inr (.inr (.inl e)))),qf h.nr (λk e=>a k (.inr (.inr (.inr (.inl e))))),h.nl,λm g=>(h.gr m g).kept (a _ (.inr (.inr (.inr (.inr ⟨m,g,rfl⟩))))) c,h.fam.tj (λj k l e=>f k ((d k).2 (.inr ⟨j,l,e⟩))) c (λk e=>⟨.inl e,jci (h.ltF k e) c⟩),h.sb,h.sr,h.sg⟩,d⟩
theorem PW.later (h:PW w b G W) (a:Bw w w'):PW w' b G W:=h.kept (λk c=>a.block k (h.lt k c)) a.size
end
def woP (b:Nat) (W:WoS):qfr:=⟨λw G=>PW w b G W,λ_ _ h=>h.lt,λ_ _ _ h=>h.kept⟩
def vh (w:World) (b:Nat) (G:Nat->Prop) (W':WoS) (w':World):Prop:=qbi (woP b W') w G w'
section
variable {w w':World} {b:Nat} {G:Nat->Prop} {M:WoM} {W:WoS} {Gs:Nat->Nat->Prop}
theorem vh.same (h:PW w b G W) (a:Bw w w'):vh w b G W w':=⟨G,h.later a,λ_ c=>.inl c,qc.ofBelow a⟩
theorem PWo.stepS (h:PWo w b M W Gs) (d:∀k,G k↔qmp b M (W.n+W.c) Gs k) (hi:i<W.n) {S':qe} (t:PPo w (M.bp i) (Gs i) S' w'):vh w b G (setSite W i S') w':=by
 obtain⟨o,f,g,u,a⟩:=h.fam.stepG (ps':=qci M (setSite W i S')) (i:=i) (by omega) (p:=qfp (M.bp i) S') t (by show (if i<W.n then _ else _)=_;rw[if_pos hi];show qfp (M.bp i) (jj W.S i S' i)=_;rw[qt]) (λj s v=>by
  show (if j<W.n then qfp (M.bp j) (jj W.S i S' j)else _)=(if j<W.n then _ else _);rw[yq _ _ v]
  rfl)
 refine⟨qmp b M (W.n+W.c) o,⟨M,o,h.keep u f rfl rfl rfl rfl rfl rfl,λ_=>jdl⟩,λk l=>?_,⟨a.os,a.tape,a.output,a.size,λk l x=>a.block k l (λe=>x ((d k).2 (.inr ⟨i,by omega,e⟩)))⟩⟩;rcases l with q|⟨j,s,q⟩
 ·exact .inl ((d k).2 (.inl q))
 rcases g j k q with r|r
 ·exact .inl ((d k).2 (.inr ⟨j,s,r⟩))
 exact .inr r
theorem PWo.stepC (h:PWo w b M W Gs) (l:∀k,G k↔qmp b M (W.n+W.c) Gs k) (hi:i<W.c) {a:qy} (u:qc8 w (M.bs i) (Gs (W.n+i)) a w'):vh w b G (vf W i a) w':=by
 obtain⟨s,f,g,v,d⟩:=h.fam.stepG (ps':=qci M (vf W i a)) (i:=W.n+i) (by omega) (p:=qix (M.bs i) a) u (by show (if W.n+i<W.n then _ else _)=_;rw[if_neg (by omega)];show qix (M.bs (W.n+i-W.n)) (jj W.ses i a (W.n+i-W.n))=_;rw[show W.n+i-W.n=i by omega,qt]) (λj t y=>by
  show (if j<W.n then _ else qix (M.bs (j-W.n)) (jj W.ses i a (j-W.n)))=(if j<W.n then _ else _);by_cases q:j<W.n
  ·rw[if_pos q,if_pos q];rfl
  rw[if_neg q,if_neg q,yq _ _ (by omega)])
 refine⟨qmp b M (W.n+W.c) s,⟨M,s,h.keep v f rfl rfl rfl rfl rfl rfl,λ_=>jdl⟩,λk o=>?_,⟨d.os,d.tape,d.output,d.size,λk o x=>d.block k o (λe=>x ((l k).2 (.inr ⟨W.n+i,by omega,e⟩)))⟩⟩;rcases o with q|⟨j,t,q⟩
 ·exact .inl ((l k).2 (.inl q))
 rcases g j k q with r|r
 ·exact .inl ((l k).2 (.inr ⟨j,t,r⟩))
 exact .inr r
end
end
structure V4 where
 v0:Int
 v1:Int
 v2:Int
 v3:Int
def qj (S:qe):Nat->V4
 |0=>⟨S.a0,S.a1,S.a2,S.a3⟩
 |k+1=>if (k:Int)=S.id then qj S k else ⟨qm (qj S k).v0 (S.oth (k*4)),qm (qj S k).v1 (S.oth (k*4+1)),qm (qj S k).v2 (S.oth (k*4+2)),qm (qj S k).v3 (S.oth (k*4+3))⟩
theorem q27 {S:qe} {lv wv sv:Value} {k:Nat} (a:k<4):(vz S lv wv sv)[10+k*4]?=some (U (S.oth (k*4)))/\(vz S lv wv sv)[10+k*4+1]?=some (U (S.oth (k*4+1)))/\(vz S lv wv sv)[10+k*4+2]?=some (U (S.oth (k*4+2)))/\(vz S lv wv sv)[10+k*4+3]?=some (U (S.oth (k*4+3))):=by
 match k,a with
 |0,_=>exact⟨rfl,rfl,rfl,rfl⟩
 |1,_=>exact⟨rfl,rfl,rfl,rfl⟩
 |2,_=>exact⟨rfl,rfl,rfl,rfl⟩
 |3,_=>exact⟨rfl,rfl,rfl,rfl⟩
theorem qj9 {w W:World} {b:Nat} (h:Bw w W) (a:w.heap.size<=b) (x0 x1 x2 x3:Int):Bw w ((((W.setCell (AD b 0) (U x0)).setCell (AD b 1) (U x1)).setCell (AD b 2) (U x2)).setCell (AD b 3) (U x3)):=
 (((h.setCell a _).setCell a _).setCell a _).setCell a _
structure StM (w:World) (S:qe) (k:Nat) (wr:World):Prop where
 r:qo wr w.heap.size 0 0 0 0
 v:qo wr (w.heap.size+1) (qj S k).v0 (qj S k).v1 (qj S k).v2 (qj S k).v3
 b:Bw w wr
def jw (n:Int):Nat:=min 4 n.toNat
end Go.Proofs.YtoanjdndmlffdaaGreatDoor
