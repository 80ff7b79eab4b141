import Derived.Test.YtoanjdndmlffdaaGreatDoorPGo
import Derived.Test.YtoanjdndmlffdaaGreatDoorQRead
import Derived.Shelf.Strings.Split
import Derived.Shelf.SlIter.Nil
import Derived.Shelf.SortM.Plain
import Derived.Shelf.SortM.SortNone
import Derived.Shelf.Sort.Plain
set_option maxHeartbeats 16000000
set_option maxRecDepth 100000
namespace Go.Proofs.YtoanjdndmlffdaaGreatDoor
section
open Go.RowKit Go.Maps
def jf (S:qe) (t:TxP):Int:=
 if okT t=false then 1 else if t.site=S.id then 1 else if t.seq<=qp t.site S.a0 S.a1 S.a2 S.a3 then 9 else if S.waits.any (λx=>vv x t)=true then 9 else if 200<=S.log.length then 12 else if 40<=S.waits.length/\qz S t=false then 12 else 0
def zu (S:qe) (t:TxP) (S':qe):Prop:=(jf S t≠0/\S'=S)\/(jf S t=0/\qfm {S with waits:=S.waits++[t]} S')
variable {S:qe} {t:TxP}
theorem zu.det {A B:qe} (h:zu S t A) (k:zu S t B):A=B:=by
 rcases h with ⟨a,rfl⟩|⟨a,d⟩
 ·rcases k with ⟨_,rfl⟩|⟨c,_⟩
  ·rfl
  exact absurd c a
 rcases k with ⟨c,_⟩|⟨_,e⟩
 ·exact absurd a c
 exact d.det e
theorem qf6 (h:jf S t=0):okT t=true/\t.site≠S.id/\¬t.seq<=qp t.site S.a0 S.a1 S.a2 S.a3/\(∀x∈S.waits,vv x t=false)/\S.log.length<200:=by
 unfold jf at h;split at h
 ·cases h
 rename_i a;split at h
 ·cases h
 rename_i c;split at h
 ·cases h
 rename_i d;split at h
 ·cases h
 rename_i e;split at h
 ·cases h
 rename_i g;refine⟨by simpa using a,c,d,λx f=>?_,by omega⟩;cases hi:vv x t with
 |false=>rfl
 |true=>exact absurd (List.any_eq_true.2 ⟨x,f,hi⟩) e
theorem zu.inv {S':qe} (h:zu S t S') (a:j3 S):j3 S':=by
 rcases h with ⟨_,rfl⟩|⟨c,d⟩
 ·exact a
 obtain⟨p1,p2,_,e,_⟩:=qf6 c;exact d.inv (a.wait p1 p2 e)
structure TkB (tb b bm:Nat) (ts:List Value) (w:World):Prop where
 t:qd w tb ts
 m:w.cell? (AD b 8)=some (.map (some bm))
variable {m:TxM}
theorem q6g {l:List TxM} {L:List TxP} {v:Bool} (c:l.map (·.t)=L) (d:qpl l t.site t.seq m v):L.any (λx=>vv x t)=v:=by
 cases v with
 |true=>
  obtain⟨a,f,g⟩:=d.yes rfl;rw[<-c];exact List.any_eq_true.2 ⟨m.t,jcz.2 ⟨m,a,rfl⟩,qe5.2 ⟨f,g⟩⟩
 |false=>
  obtain⟨_,a⟩:=d.no rfl;rw[<-c,List.any_eq_false];intro x h;obtain⟨y,i,rfl⟩:=jcz.1 h;exact λe=>a y i (qe5.1 e)
variable {b:Nat} {G:Nat->Prop}
theorem q7h {c g d:World} {lv:Value} {bm:Nat} {F:Nat->Prop} {log waits:List TxM} (l:zf c b lv bm F S log waits) (r:log.map (·.t)=S.log) (s:waits.map (·.t)=S.waits) (f:∀k,G k↔(jn b lv bm F k\/∃m∈log++waits,m.blk k))
 (n:Bw c g) (u:qr g m.wa m.wc m.t.ws) (o:∀k,m.blk k->c.heap.size<=k) (v:qd5 d bm (waits++[m])) (p:g.grownBy d (some bm)):
 ∃q,PS d b q {S with waits:=S.waits++[m.t]}/\(∀k,q k->G k\/c.heap.size<=k)/\qc G c d:=by
 have w:=l.later n
 have y:zf d b lv bm F {S with waits:=S.waits++[m.t]} log (waits++[m]):=(w.turn p v (λx h=>by
  rcases jcf.1 h with a|a
  ·exact .inl a
  rw[jcj.1 a];refine .inr ⟨u,λk e z=>?_⟩;have:=o k e;have:=l.lt k z
  omega)).waits _
 refine⟨_,⟨lv,bm,F,log,waits++[m],y,r,by rw[jdb,s];rfl,λk=>jdl⟩,λk A=>?_,?_⟩
 ·rcases A with a|⟨x,h,a⟩
  ·exact .inl ((f k).2 (.inl a))
  rcases jcf.1 h with i|i
  ·exact .inl ((f k).2 (.inr ⟨x,jcf.2 (.inl i),a⟩))
  rcases jcf.1 i with j|j
  ·exact .inl ((f k).2 (.inr ⟨x,jcf.2 (.inr j),a⟩))
  rw[jcj.1 j]at a;exact .inr (o k a)
 exact(qc.ofBelow n).trans (qc.grown p (λk e=>(f k).2 (.inl (.inr (.inr (.inl (by injection e with e;exact e.symm)))))))
theorem q0z (m:TxM) (w:World) (h:PS w b G S) (hI:j3 S) (hn:S.waits.length<=990) (hW:qr w m.wa m.wc m.t.ws):
 Ca 210 #[PP b,txV m] w λe w'=>e=.returned (jc (jf S m.t))/\∃S',zu S m.t S'/\PPo w b G S' w':=by
 obtain⟨⟨c,d,wall,f,g,i,j,l,ws⟩,a,cap⟩:=m;simp only at hW ⊢;have hb:=boxed (jcc _ w) (.cells (List.toArray (T9 c d wall f g i j l a ws.length cap)) 102);have C:=qd.new (w:=w) (T:=102) (T9 c d wall f g i j l a ws.length cap) rfl;change qd (w.nu (List.toArray (T9 c d wall f g i j l a ws.length cap)) 102) w.heap.size (T9 c d wall f g i j l a ws.length cap)at C;have hne:=qb.one;have P1:=h.later hb;have W1:=hW.later hb;have nG:¬G w.heap.size:=λe=>Nat.lt_irrefl _ (h.lt _ e)
 have NO:∀o ev,jf S ⟨c,d,wall,f,g,i,j,l,ws⟩=ev->ev≠0->Bw w o->Hid ((.returned (jc ev):Ending)=.returned (jc (jf S ⟨c,d,wall,f,g,i,j,l,ws⟩))/\∃S',zu S ⟨c,d,wall,f,g,i,j,l,ws⟩ S'/\PPo w b G S' o):=λo ev e1 e2 e3=>by
  show _/\_;rw[e1];exact⟨rfl,S,.inl ⟨by rw[e1];exact e2,rfl⟩,PPo.same h e3⟩
 have GO0:Hid (∀o G9 S',(∀k,G9 k->G k\/w.heap.size<=k)->qc G w o->∀w10,PPo o b G9 S' w10->PPo w b G S' w10):=λo G9 S' H M w10 s=>PPo.trans H M s;show Ca 210 #[PP b,.agg (List.toArray (T9 c d wall f g i j l a ws.length cap))] w _;obtain⟨lv,bm,F,log,waits,PM,hl,hw,hG⟩:=id P1;have k0:=qb.cell (PM.box.cell 0 _ rfl);have t0:=qb.cell (C.cell 0 _ rfl);have t1:=qb.cell (C.cell 1 _ rfl);have t2:=qb.cell (C.cell 2 _ rfl);have t3:=qb.cell (C.cell 3 _ rfl);have t4:=qb.cell (C.cell 4 _ rfl);have t5:=qb.cell (C.cell 5 _ rfl);have t6:=qb.cell (C.cell 6 _ rfl);have t7:=qb.cell (C.cell 7 _ rfl);have t8:=qb.cell (C.cell 8 _ rfl);cases hok:okT ⟨c,d,wall,f,g,i,j,l,ws⟩
 ·have HK:Hid (jt c d wall f g i j l ws=false):=hok
  have E:jf S ⟨c,d,wall,f,g,i,j,l,ws⟩=1:=by unfold jf;rw[if_pos hok]
  have I:=λo J=>NO o 1 E (by decide) J;go_enter Tryz.func210,Tryz.ntmps210
  go_wp2_with fail
  refine wrl ?_
  repeat (go_big_quiet_step (first|rfl|(go_at_call 252;with_reducible exact qg (qex (W1.later (qb.below _)) HK.out))))
  refine wpQuiet_nil ?_;rintro w2 ⟨⟨_,O⟩,rfl⟩
  go_wp2_with fail
  go_ret;exact(I _ (qa hb O)).out
 have HK:Hid (jt c d wall f g i j l ws=true):=hok;obtain⟨⟨s0,s3⟩,⟨sq1,sq2⟩,sw⟩:=qcg hok;simp only at s0 s3 sq1 sq2 sw;have P:=hd1 hok;by_cases X:c=S.id
 ·have E:jf S ⟨c,d,wall,f,g,i,j,l,ws⟩=1:=by unfold jf;rw[if_neg (by rw[P.out];decide),if_pos X]
  have I:=λo J=>NO o 1 E (by decide) J
  have i1:(c==S.id)=true:=by simp[X]
  have i2:decide (c=S.id)=true:=by simp[X]
  go_enter Tryz.func210,Tryz.ntmps210
  go_wp2_with fail
  refine wrl ?_
  repeat (go_big_quiet_step (first|rfl|(go_at_call 252;with_reducible exact qg (qex (W1.later (qb.below _)) HK.out))))
  refine wpQuiet_nil ?_;rintro w2 ⟨⟨_,O⟩,rfl⟩
  go_wp2_with fail
  go_ret;exact(I _ (qa hb O)).out
 have i1:(c==S.id)=false:=by simp[X]
 have i2:decide (c=S.id)=false:=by simp[X]
 have V:=hd1 X;have u:=hd4 PM hl hw hG;have HI:=hd1 hI;have HNO:=hd1 NO;go_enter Tryz.func210,Tryz.ntmps210
 go_wp2_with fail
 refine wrl ?_
 repeat (go_big_quiet_step (first|rfl|(go_at_call 252;with_reducible exact qg (qex (W1.later (qb.below _)) HK.out))))
 refine wpQuiet_nil ?_;rintro w2 ⟨⟨_,O⟩,rfl⟩;have PM2:=hd1 (u.out.1.later O);have RB2:=C.later O;have hbw:=qa hb O;have HBA2:Hid (Below (w.nu (List.toArray (T9 c d wall f g i j l a ws.length cap)) 102).heap.size (w.nu (List.toArray (T9 c d wall f g i j l a ws.length cap)) 102) w2):=O;have HNT:=hd1 nG;have d8:=qb.cell (PM2.out.box.cell 8 _ rfl);have t0:=qb.cell (RB2.cell 0 _ rfl);have t1:=qb.cell (RB2.cell 1 _ rfl);have ks:=qb.cell (PM2.out.box.cell _ _ (qmz s0 s3))
 have s4:c<4:=by omega
 obtain⟨D,hD⟩:∃D,qp c S.a0 S.a1 S.a2 S.a3=D:=⟨_,rfl⟩;have Y:=hd1 hD;rw[hD]at ks;by_cases hle:d<=D
 ·have E:jf S ⟨c,d,wall,f,g,i,j,l,ws⟩=9:=by unfold jf;rw[if_neg (by rw[P.out];decide),if_neg V.out,if_pos (by rw[Y.out];exact hle)]
  have I:=λo J=>HNO.out o 9 E (by decide) J
  go_wp2_with fail
  refine wrl ?_
  repeat (go_big_quiet_step (first|rfl|fail))
  refine wpQuiet_nil ?_;rintro w3 ⟨⟨_,Q⟩,rfl⟩
  go_wp2_with fail
  go_ret;exact(I _ (qa hbw Q)).out
 obtain⟨mx,v,hL⟩:=q0t waits c d;have wfs:wfI c:=⟨by omega,by omega⟩;have wfq:wfI d:=⟨by omega,by omega⟩;have HAS:Hid (∀x:qb w2,Ca 253 #[.map (some bm),U c,U d] x.val λe w'=>e=.returned (.bool v)/\Below x.val.heap.size x.val w'):=λx=>jac hL wfs wfq x.val (PM2.out.later x.below).map;have HAN:=hd1 (q6g (t:=⟨c,d,wall,f,g,i,j,l,ws⟩) u.out.2.2.1 hL);have HLE:=hd1 hle;have q1:=decide_eq_false hle;cases v
 rotate_left
 ·have E:jf S ⟨c,d,wall,f,g,i,j,l,ws⟩=9:=by unfold jf;rw[if_neg (by rw[P.out];decide),if_neg V.out,if_neg (by rw[Y.out];have:=HLE.out;simp only;omega),if_pos HAN.out]
  have I:=λo J=>HNO.out o 9 E (by decide) J
  go_wp2_with fail
  refine wrl ?_
  repeat (go_big_quiet_step (first|rfl|(go_at_call 253;with_reducible exact qg (HAS.out _))))
  refine wpQuiet_nil ?_;rintro w3 ⟨⟨_,Q⟩,rfl⟩
  go_wp2_with fail
  go_ret;exact(I _ (qa hbw Q)).out
 have HNM:Hid (∀x∈waits,vv x.t ⟨c,d,wall,f,g,i,j,l,ws⟩=false):=λx hx=>by
  cases hi:vv x.t ⟨c,d,wall,f,g,i,j,l,ws⟩with
  |false=>rfl
  |true=>exact absurd (qe5.1 hi) ((hL.no rfl).2 x hx)
 go_wp2_with fail
 refine wrl ?_
 repeat (go_big_quiet_step (first|rfl|(go_at_call 253;with_reducible exact qg (HAS.out _))))
 refine wpQuiet_nil ?_;rintro w3 ⟨⟨_,Q⟩,rfl⟩;have PM3:=hd1 (PM2.out.later Q);have RB3:=RB2.later Q;have hbw3:=qa hbw Q;have HBA:=hd1 (qa HBA2.out Q)
 have hll:log.length=S.log.length:=by rw[<-u.out.2.1];simp
 have hwl:waits.length=S.waits.length:=by rw[<-u.out.2.2.1];simp
 by_cases hf:200<=log.length
 ·have E:jf S ⟨c,d,wall,f,g,i,j,l,ws⟩=12:=by unfold jf;rw[if_neg (by rw[P.out];decide),if_neg V.out,if_neg (by rw[Y.out];have:=HLE.out;simp only;omega),if_neg (by rw[HAN.out];decide),if_pos (by omega)]
  have I:=λo J=>HNO.out o 12 E (by decide) J;have IF:=qe0 (decide_eq_true hf) w3 PM3.out
  go_wp2_with fail
  refine IF.mono ?_;rintro e z ⟨rfl,Z⟩
  go_wp2_with fail
  go_ret;exact(I _ (qa hbw3 Z)).out
 have IF:=qe0 (decide_eq_false hf) w3 PM3.out
 have HF:Hid (S.log.length<200):=by show _<_;omega
 have HWL:=hd2 hwl hn
 go_wp2_with fail
 refine IF.mono ?_;rintro e z ⟨rfl,Z⟩;have R:=hd1 (PM3.out.later Z);have B:=RB3.later Z;have hbw4:=qa hbw3 Z;have HW4:=hd1 (qa HBA.out Z);have d8:=R.out.box.cell 8 _ rfl;obtain⟨hM1,hM2,DD,hown,hMI⟩:=id R.out.map
 have LEN:∀ty,(Builtin.len_ #[214] ty #[.map (some bm)]).run Tryz.prog z=.ok (U waits.length) z:=λty=>by
  have:=hown.len Tryz.underlying214 ty;rw[hMI.size]at this;exact this
 have t0:=(B.cell 0 _ rfl);have t1:=(B.cell 1 _ rfl);have t2:=(B.cell 2 _ rfl);have t3:=(B.cell 3 _ rfl);have t4:=(B.cell 4 _ rfl);have t5:=(B.cell 5 _ rfl);have t6:=(B.cell 6 _ rfl);have t7:=(B.cell 7 _ rfl);have t8:=(B.cell 8 _ rfl);by_cases h40:40<=waits.length
 have g40:(40:Int)<=(waits.length:Int):=by omega
 obtain⟨r,hr⟩:∃r,qz S ⟨c,d,wall,f,g,i,j,l,ws⟩=r:=⟨_,rfl⟩;have RD:=qnn (v:=r) ⟨⟨c,d,wall,f,g,i,j,l,ws⟩,a,cap⟩ z R.out s0 s3 (HI.out.dep _) hr;simp only[txV]at RD;have HR:=hd1 hr;cases r
 ·have E:jf S ⟨c,d,wall,f,g,i,j,l,ws⟩=12:=by unfold jf;rw[if_neg (by rw[P.out];decide),if_neg V.out,if_neg (by rw[Y.out];have:=HLE.out;simp only;omega),if_neg (by rw[HAN.out];decide),if_neg (by have:=HF.out;omega),if_pos ⟨by have:=HWL.out;omega,HR.out⟩]
  have I:=λo J=>HNO.out o 12 E (by decide) J
  go_wp2_with fail
  refine RD.mono ?_;rintro e L ⟨rfl,aa⟩
  go_wp2_with fail
  go_ret;exact(I _ (qa hbw4 aa)).out
 have E0:Hid (jf S ⟨c,d,wall,f,g,i,j,l,ws⟩=0):=by show _=_;unfold jf;rw[if_neg (by rw[P.out];decide),if_neg V.out,if_neg (by rw[Y.out];have:=HLE.out;simp only;omega),if_neg (by rw[HAN.out];decide),if_neg (by have:=HF.out;omega),if_neg (λe=>by rw[HR.out]at e;cases e.2)]
 go_wp2_with fail
 refine RD.mono ?_;rintro e L ⟨rfl,aa⟩;have PM5:=hd1 (R.out.later aa);have RB5:=B.later aa;have hbw5:=qa hbw4 aa;have HW5:=hd1 (qa HW4.out aa);have hbW:=HW5.out;have HTB:Hid (∀w',qd5 w' bm (waits++[⟨⟨c,d,wall,f,g,i,j,l,ws⟩,none,0⟩])->True):=λ_ _=>trivial;have SB:TkB w.heap.size b bm (T9 c d wall f g i j l a ws.length cap) L.drew:=⟨RB5.drew,PM5.out.box.cell 8 _ rfl⟩
 have CP:Hid (Ca 245 #[.agg (List.toArray (T9 c d wall f g i j l a ws.length cap))] L.drew λe w'=>(∃a2 n,e=.returned (.agg (List.toArray (T9 c d wall f g i j l a2 ws.length n)))/\Hid (qr w' a2 n ws/\(∀k,(⟨⟨c,d,wall,f,g,i,j,l,ws⟩,a2,n⟩:TxM).blk k->L.heap.size<=k)))/\TkB w.heap.size b bm (T9 c d wall f g i j l a ws.length cap) w'/\Bw L w'):=
  (qgq ⟨⟨c,d,wall,f,g,i,j,l,ws⟩,a,cap⟩ L.drew (W1.later (hbW.trans (jcc _ L).drew)) sw.1 (by have:=sw.2;simp only;omega)).mono λe w' ⟨m2,H,M,s,h4,h5⟩=>by
   obtain⟨t2,a2,n⟩:=m2;simp only at H;subst H;have p:=qa (jcc _ L).drew h5;exact⟨⟨a2,n,M,s,h4⟩,⟨RB5.later p,(PM5.out.later p).box.cell 8 _ rfl⟩,p⟩
 have PU:Hid (∀a2 n q,(qr q a2 n ws/\(∀k,(⟨⟨c,d,wall,f,g,i,j,l,ws⟩,a2,n⟩:TxM).blk k->L.heap.size<=k))->Bw L q->Ca 255 #[.map (some bm),.agg (List.toArray (T9 c d wall f g i j l a2 ws.length n))] q λe w'=>e=.returned (.tuple #[])/\TkB w.heap.size b bm (T9 c d wall f g i j l a ws.length cap) w'/\Hid (∃K,PS w' b K {S with waits:=S.waits++[⟨c,d,wall,f,g,i,j,l,ws⟩]}/\(∀k,K k->G k\/w.heap.size<=k)/\qc G w w')):=λa2 n q hh p=>by
  have N:=PM5.out.later p;have R6:=RB5.later p;refine(q0o ⟨⟨c,d,wall,f,g,i,j,l,ws⟩,a2,n⟩ q N.map ⟨⟨by simp only;omega,by simp only;omega⟩,⟨by simp only;omega,by simp only;omega⟩⟩ HNM.out (by have:=HWL.out;omega)).mono λe w' ⟨H,M,s⟩=>⟨H,⟨R6.grown s (λe=>?_),?_⟩,?_⟩
  ·injection e with e;exact HNT.out (by rw[e];exact(u.out.2.2.2 bm).2 (.inl (.inr (.inr (.inl rfl)))))
  ·rw[jch (w:=q) (s.block b N.box.lt (λe=>N.nm (by injection e with e;exact e.symm)))];exact N.box.cell 8 _ rfl
  obtain⟨K,g1,g2,g3⟩:=q7h PM5.out u.out.2.1 u.out.2.2.1 u.out.2.2.2 p hh.1 hh.2 M s;exact⟨K,g1,λk W=>(g2 k W).imp id (λe=>by have:=hbw5.size;omega),(qc.ofBelow hbw5).more g3 (λk W=>.inl W)⟩
 rotate_left
 have g40:¬(40:Int)<=(waits.length:Int):=by omega
 have E0:Hid (jf S ⟨c,d,wall,f,g,i,j,l,ws⟩=0):=by show _=_;unfold jf;rw[if_neg (by rw[P.out];decide),if_neg V.out,if_neg (by rw[Y.out];have:=HLE.out;simp only;omega),if_neg (by rw[HAN.out];decide),if_neg (by have:=HF.out;omega),if_neg (λe=>by have:=HWL.out;omega)]
 go_wp2_with fail
 have hbW:=HW4.out;have HTB:Hid (∀w',qd5 w' bm (waits++[⟨⟨c,d,wall,f,g,i,j,l,ws⟩,none,0⟩])->True):=λ_ _=>trivial;have SB:TkB w.heap.size b bm (T9 c d wall f g i j l a ws.length cap) z.drew:=⟨B.drew,R.out.box.cell 8 _ rfl⟩
 have CP:Hid (Ca 245 #[.agg (List.toArray (T9 c d wall f g i j l a ws.length cap))] z.drew λe w'=>(∃a2 n,e=.returned (.agg (List.toArray (T9 c d wall f g i j l a2 ws.length n)))/\Hid (qr w' a2 n ws/\(∀k,(⟨⟨c,d,wall,f,g,i,j,l,ws⟩,a2,n⟩:TxM).blk k->z.heap.size<=k)))/\TkB w.heap.size b bm (T9 c d wall f g i j l a ws.length cap) w'/\Bw z w'):=
  (qgq ⟨⟨c,d,wall,f,g,i,j,l,ws⟩,a,cap⟩ z.drew (W1.later (hbW.trans (jcc _ z).drew)) sw.1 (by have:=sw.2;simp only;omega)).mono λe w' ⟨m2,H,M,s,h4,h5⟩=>by
   obtain⟨t2,a2,n⟩:=m2;simp only at H;subst H;have p:=qa (jcc _ z).drew h5;exact⟨⟨a2,n,M,s,h4⟩,⟨B.later p,(R.out.later p).box.cell 8 _ rfl⟩,p⟩
 have PU:Hid (∀a2 n q,(qr q a2 n ws/\(∀k,(⟨⟨c,d,wall,f,g,i,j,l,ws⟩,a2,n⟩:TxM).blk k->z.heap.size<=k))->Bw z q->Ca 255 #[.map (some bm),.agg (List.toArray (T9 c d wall f g i j l a2 ws.length n))] q λe w'=>e=.returned (.tuple #[])/\TkB w.heap.size b bm (T9 c d wall f g i j l a ws.length cap) w'/\Hid (∃K,PS w' b K {S with waits:=S.waits++[⟨c,d,wall,f,g,i,j,l,ws⟩]}/\(∀k,K k->G k\/w.heap.size<=k)/\qc G w w')):=λa2 n q hh p=>by
  have N:=R.out.later p;have R6:=B.later p;refine(q0o ⟨⟨c,d,wall,f,g,i,j,l,ws⟩,a2,n⟩ q N.map ⟨⟨by simp only;omega,by simp only;omega⟩,⟨by simp only;omega,by simp only;omega⟩⟩ HNM.out (by have:=HWL.out;omega)).mono λe w' ⟨H,M,s⟩=>⟨H,⟨R6.grown s (λe=>?_),?_⟩,?_⟩
  ·injection e with e;exact HNT.out (by rw[e];exact(u.out.2.2.2 bm).2 (.inl (.inr (.inr (.inl rfl)))))
  ·rw[jch (w:=q) (s.block b N.box.lt (λe=>N.nm (by injection e with e;exact e.symm)))];exact N.box.cell 8 _ rfl
  obtain⟨K,g1,g2,g3⟩:=q7h R.out u.out.2.1 u.out.2.2.1 u.out.2.2.2 p hh.1 hh.2 M s;exact⟨K,g1,λk W=>(g2 k W).imp id (λe=>by have:=hbw4.size;omega),(qc.ofBelow hbw4).more g3 (λk W=>.inl W)⟩
 all_goals
  have T0:=λ(w':World) (h:TkB w.heap.size b bm (T9 c d wall f g i j l a ws.length cap) w')=>h.t.cell 0 _ rfl;have T1:=λ(w':World) (h:TkB w.heap.size b bm (T9 c d wall f g i j l a ws.length cap) w')=>h.t.cell 1 _ rfl;have T2:=λ(w':World) (h:TkB w.heap.size b bm (T9 c d wall f g i j l a ws.length cap) w')=>h.t.cell 2 _ rfl;have T3:=λ(w':World) (h:TkB w.heap.size b bm (T9 c d wall f g i j l a ws.length cap) w')=>h.t.cell 3 _ rfl;have T4:=λ(w':World) (h:TkB w.heap.size b bm (T9 c d wall f g i j l a ws.length cap) w')=>h.t.cell 4 _ rfl;have T5:=λ(w':World) (h:TkB w.heap.size b bm (T9 c d wall f g i j l a ws.length cap) w')=>h.t.cell 5 _ rfl;have T6:=λ(w':World) (h:TkB w.heap.size b bm (T9 c d wall f g i j l a ws.length cap) w')=>h.t.cell 6 _ rfl;have T7:=λ(w':World) (h:TkB w.heap.size b bm (T9 c d wall f g i j l a ws.length cap) w')=>h.t.cell 7 _ rfl;have T8:=λ(w':World) (h:TkB w.heap.size b bm (T9 c d wall f g i j l a ws.length cap) w')=>h.t.cell 8 _ rfl;have TM:=λ(w':World) (h:TkB w.heap.size b bm (T9 c d wall f g i j l a ws.length cap) w')=>h.m
  go_wp2_with fail
  go_region_held3 (λw'=>TkB w.heap.size b bm (T9 c d wall f g i j l a ws.length cap) w') (with_reducible assumption)
   (first
        |(go_at_call 245;with_reducible refine CP.out.mono ?_;rintro e q ⟨⟨a2,n,rfl,HC6⟩,N6,hb6⟩)
        |(go_at_call 255;with_reducible refine(PU.out a2 n _ HC6.out hb6).mono ?_;rintro e w7 ⟨rfl,N7,HP7⟩))
  all_goals
   obtain⟨K,q1,q2,q3⟩:=HP7.out;have AR:=qqg w7 q1 (HI.out.wait P.out V.out (λx hx=>by rw[<-u.out.2.2.1]at hx;obtain⟨y,hy,rfl⟩:=jcz.1 hx;exact HNM.out y hy)) (by have:=HWL.out;simp;omega);have HGO:=hd1 (λS' w' hp=>GO0.out w7 K S' q2 q3 w' hp)
   go_wp2_with fail
   refine AR.mono ?_;rintro e w8 ⟨rfl,S',hgo,hp⟩;have HF9:Hid (∃S',zu S ⟨c,d,wall,f,g,i,j,l,ws⟩ S'/\PPo w b G S' w8):=⟨S',.inr ⟨E0.out,hgo⟩,HGO.out S' w8 hp⟩
   go_wp2_with fail
   go_ret;refine⟨?_,HF9.out⟩;rw[E0.out];rfl
end
section
open Go.RowKit
theorem q62 {lw lc now x y e:Int} (h:qcp lw lc now=(x,y,e)) (w:World):
 Ca 243 #[.agg #[U lw,U lc],U now] w (Rn (.tuple #[.agg #[U x,U y],jc e]) w):=by
 unfold qcp at h;split at h
 ·rename_i g;injection h with h1 h2;injection h2 with h2 h3;subst h1 h2 h3;exact qv7 lw lc now w g
 rename_i g
 have g':(qi lw&&qi lc)=true:=by simpa using g
 have f:0<=lc/\lc<=1099511627776:=by
  have i:=g';simp[qi]at i;omega
 split at h
 ·rename_i c;injection h with h1 h2;injection h2 with h2 h3;subst h1 h2 h3;exact quj lw lc now w g' c
 rename_i c
 have d:qi now=true:=by simpa using c
 split at h
 ·rename_i a;injection h with h1 h2;injection h2 with h2 h3;subst h1 h2 h3;exact q2c lw lc now w g' d a
 rename_i a;split at h
 ·rename_i j;injection h with h1 h2;injection h2 with h2 h3;subst h1 h2 h3;exact q1l lw lc now w g' d a (by simp;omega)
 rename_i j;injection h with h1 h2;injection h2 with h2 h3;subst h1 h2 h3;exact qzl lw lc now w g' d a (by simp;omega) f.1 (by omega)
def qfl (S:qe) (now d0 d1 d2 d3:Int) (ws:List Wr):Int:=ji S S.log.length now d0 d1 d2 d3 ws
def qha (S:qe) (now d0 d1 d2 d3:Int) (ws:List Wr):TxP:=if qfl S now d0 d1 d2 d3 ws=0 then zv S now d0 d1 d2 d3 ws else ⟨0,0,0,0,0,0,0,0,[]⟩
def qf3 (S:qe) (now d0 d1 d2 d3:Int) (ws:List Wr):qe:=if qfl S now d0 d1 d2 d3 ws=0 then vr S (zv S now d0 d1 d2 d3 ws)else S
def qsw (w:World) (b:Nat) (G:Nat->Prop) (S:qe) (now d0 d1 d2 d3:Int) (ws:List Wr) (e:Ending) (w':World):Prop:=
 ∃(m:TxM) (G':Nat->Prop),e=.returned (.tuple #[txV m,jc (qfl S now d0 d1 d2 d3 ws)])/\m.t=qha S now d0 d1 d2 d3 ws/\Hid (qr w' m.wa m.wc m.t.ws/\PS w' b G' (qf3 S now d0 d1 d2 d3 ws)/\(∀k,G' k->G k\/w.heap.size<=k)/\qc G w w'/\∀k,m.blk k->w.heap.size<=k/\¬G' k)
variable {w:World} {b:Nat}
theorem qba {tmps:Array Value} {m:TxM} {ev:Value} (h:qd w b (txC m)) (a:tmps[8]?=some (PP b)) (c:tmps[9]?=some ev):
 (results Tryz.f206 tmps).run Tryz.prog w=.ok (.tuple #[txV m,ev]) w:=by
 obtain⟨d,e,f,g,i,j,k,l,n⟩:=h.c9;simp[results,Tryz.results206,go_sem,a,c,d,e,f,g,i,j,k,l,n,txV]
variable {S:qe} {d0 d1 d2 d3:Int} {ws:List Wr}
theorem qpk {now:Int} (a:j3 S) (h:qfl S now d0 d1 d2 d3 ws=0):j3 (vr S (zv S now d0 d1 d2 d3 ws))/\1<=ws.length/\ws.length<=5/\S.log.length<200:=by
 obtain⟨d,f,g,i,j⟩:=qip h
 have c:1<=ws.length/\ws.length<=5:=by
  simp only[qad,jct,jk]at d;omega
 have k:=a.own;have e:=a.dep S.id;refine⟨a.applied ⟨a.id0,a.id3⟩ ⟨?_,?_⟩ c (λ_=>?_) (by omega),c.1,c.2,by omega⟩
 ·show 0<=qp S.id _ _ _ _+1;have:=e.1;omega
 ·show qp S.id _ _ _ _+1<=_;omega
 show qp S.id _ _ _ _+1<=_;omega
variable {F:Nat->Prop} {W:World}
theorem qbl {p:Addr} (h:qc F w W) (d:w.heap.size<=p.block) (v:Value):qc F w (W.setCell p v):=
 ⟨h.os,h.tape,h.output,by simpa[World.setCell]using h.size,λk a c=>(jce _ _ _ _ (by omega)).trans (h.block k a c)⟩
theorem qwv (h:qc F w W) (a:w.heap.size<=b) (x0 x1 x2 x3 c d e f:Int) (v:Value):qc F w (js W b x0 x1 x2 x3 c d e f v):=
 qbl (qbl (qbl (qbl (qbl (qbl (qbl (qbl (qbl h a _) a _) a _) a _) a _) a _) a _) a _) a _
theorem qzm {s o i:World} {lv p:Value} {bm:Nat} {F' G:Nat->Prop} {log waits:List TxM} {now:Int} {x0 x1 x2 x3 a c d f:Int} {u wa2:Option Addr} {v wc2:Nat} (L:PS w b G S) (M:Bw w s) (X:w.heap.size+1<s.heap.size)
 (B:zf o b p bm F' (vr S ⟨x0,x1,x2,x3,a,c,d,f,ws⟩) (log++[⟨⟨x0,x1,x2,x3,a,c,d,f,ws⟩,u,v⟩]) waits) (C:∀k,jn b p bm F' k->jn b lv bm F k\/s.heap.size<=k) (r:qc (jn b lv bm F) s o)
 (D:∀k,(⟨⟨x0,x1,x2,x3,a,c,d,f,ws⟩,u,v⟩:TxM).blk k->w.heap.size+1<k) (E:log.map (·.t)=S.log) (H:waits.map (·.t)=S.waits) (l:∀k,G k↔(jn b lv bm F k\/∃m∈log++waits,m.blk k)) (I:Bw o i)
 (N:qr i wa2 wc2 ws) (x:∀k,(⟨⟨x0,x1,x2,x3,a,c,d,f,ws⟩,wa2,wc2⟩:TxM).blk k->w.heap.size+1<k/\o.heap.size<=k) (J:zv S now d0 d1 d2 d3 ws=⟨x0,x1,x2,x3,a,c,d,f,ws⟩) (y:qfl S now d0 d1 d2 d3 ws=0):
 Hid (qsw w b G S now d0 d1 d2 d3 ws (.returned (.tuple #[txV ⟨⟨x0,x1,x2,x3,a,c,d,f,ws⟩,wa2,wc2⟩,.nilIface])) (js i (w.heap.size+1) x0 x1 x2 x3 a c d f (.slice wa2 ws.length wc2))):=by
 have O:=((qc.ofBelow M).more ⟨r.os,r.tape,r.output,r.size,λk j P=>r.block k j (λe=>P ((l k).2 (.inl e)))⟩ (λk j=>.inl j)).trans (qc.ofBelow I);have K:∀k,k≠w.heap.size+1->(js i (w.heap.size+1) x0 x1 x2 x3 a c d f (.slice wa2 ws.length wc2)).heap[k]?=i.heap[k]?:=λk j=>qco j x0 x1 x2 x3 a c d f _
 have Y:(js i (w.heap.size+1) x0 x1 x2 x3 a c d f (.slice wa2 ws.length wc2)).heap.size=i.heap.size:=by simp only[js,World.setCell,Array.size_modify]
 have Q:qc G w (js i (w.heap.size+1) x0 x1 x2 x3 a c d f (.slice wa2 ws.length wc2)):=qwv O (Nat.le_succ _) _ _ _ _ _ _ _ _ _
 generalize js i (w.heap.size+1) x0 x1 x2 x3 a c d f (.slice wa2 ws.length wc2)=W at*
 have R:=B.later I;have z:=L.lt
 have T:PS W b (λk=>jn b p bm F' k\/∃m∈(log++[⟨⟨x0,x1,x2,x3,a,c,d,f,ws⟩,u,v⟩])++waits,m.blk k) (vr S ⟨x0,x1,x2,x3,a,c,d,f,ws⟩):=by
  refine⟨p,bm,F',_,waits,R.kept (λk j=>K k (λe=>?_)) (by omega),by rw[jdb,E];rfl,H,λk=>jdl⟩;rcases j with g|⟨m,A,g⟩
  ·rcases C k g with h|h
   ·have:=z k ((l k).2 (.inl h));omega
   omega
  rcases jcf.1 A with h|h
  ·rcases jcf.1 h with n|n
   ·have:=z k ((l k).2 (.inr ⟨m,jcf.2 (.inl n),g⟩));omega
   rw[jcj.1 n]at g;have:=D k g;omega
  have:=z k ((l k).2 (.inr ⟨m,jcf.2 (.inr h),g⟩));omega
 have V:=PS.lt (w:=o) (b:=b) (S:=vr S ⟨x0,x1,x2,x3,a,c,d,f,ws⟩) ⟨p,bm,F',_,waits,B,by rw[jdb,E];rfl,H,λk=>jdl⟩;refine⟨⟨⟨x0,x1,x2,x3,a,c,d,f,ws⟩,wa2,wc2⟩,_,by rw[y];rfl,?_,qr.kept (m:=⟨⟨x0,x1,x2,x3,a,c,d,f,ws⟩,wa2,wc2⟩) (w:=i) N (λk e=>K k (by have:=(x k e).1;omega)),by unfold qf3;rw[if_pos y,J];exact T,λk j=>?_,Q,λk e=>⟨by have:=(x k e).1;omega,λq=>by have:=V k q;have:=(x k e).2;omega⟩⟩
 ·unfold qha;rw[if_pos y,J]
 rcases j with g|⟨m,A,g⟩
 ·rcases C k g with h|h
  ·exact .inl ((l k).2 (.inl h))
  exact .inr (by omega)
 rcases jcf.1 A with h|h
 ·rcases jcf.1 h with n|n
  ·exact .inl ((l k).2 (.inr ⟨m,jcf.2 (.inl n),g⟩))
  rw[jcj.1 n]at g;have:=D k g;exact .inr (by omega)
 exact .inl ((l k).2 (.inr ⟨m,jcf.2 (.inr h),g⟩))
end
section
open Go.RowKit
def cnt (H:List TxP) (s:Int):Nat:=H.countP (λx=>decide (x.site=s))
def qoz (S:qe) (s:Int):Int:=qp s S.a0 S.a1 S.a2 S.a3
end
section
open Go.RowKit
theorem qyy {S:qe} (h:qd7 S=none):∀x∈S.waits,0<=x.site->x.site<=3->qz S x=false:=by
 have a:qbt S 0=none/\qbt S 1=none/\qbt S 2=none/\qbt S 3=none:=by
  unfold qd7 at h;split at h
  ·cases h
  rename_i p0;split at h
  ·cases h
  rename_i p1;split at h
  ·cases h
  rename_i p2;exact⟨p0,p1,p2,h⟩
 intro x b d f
 have c:x.site=0\/x.site=1\/x.site=2\/x.site=3:=by omega
 rcases c with e|e|e|e
 ·exact qgg a.1 x b e
 ·exact qgg a.2.1 x b e
 ·exact qgg a.2.2.1 x b e
 exact qgg a.2.2.2 x b e
end
section
open Go.RowKit
theorem q43 {lw lc now:Int} (h:(qcp lw lc now).2.2=0):qi (qcp lw lc now).1=true/\qi (qcp lw lc now).2.1=true/\qdr lw lc (qcp lw lc now).1 (qcp lw lc now).2.1<0:=by
 unfold qcp at h ⊢;split
 ·rename_i g;rw[if_pos g]at h;cases h
 rename_i g;rw[if_neg g]at h
 have g':(qi lw&&qi lc)=true:=by simpa using g
 rw[jct,qdz,qdz]at g';split
 ·rename_i b;rw[if_pos b]at h;cases h
 rename_i b;rw[if_neg b]at h
 have f:qi now=true:=by simpa using b
 split
 ·rename_i c;show qi now=true/\qi 0=true/\qdr lw lc now 0<0;refine⟨f,qf7 (by decide) (by decide),?_⟩
  rcases qcw lw lc now 0 with ⟨a,e⟩|⟨a,e⟩|⟨a,e⟩<;>simp only[e]<;>omega
 rename_i c;rw[if_neg c]at h;split
 ·rename_i d;rw[if_pos d]at h;cases h
 rename_i d;show qi lw=true/\qi (lc+1)=true/\qdr lw lc lw (lc+1)<0;refine⟨qf7 g'.1.1 g'.1.2,qf7 (by omega) (by omega),?_⟩
 rcases qcw lw lc lw (lc+1)with ⟨a,e⟩|⟨a,e⟩|⟨a,e⟩<;>simp only[e]<;>omega
theorem q3w (i q a b c d s:Int) (f:0<=s) (g:s<=3):qp s (qch i q a) (qcl i q b) (qck i q c) (qcj i q d)=if s=i then q else qp s a b c d:=by
 have e:s=0\/s=1\/s=2\/s=3:=by omega
 rcases e with rfl|rfl|rfl|rfl<;>simp[qp,qch,qcl,qck,qcj,eq_comm]
end
section
open Go.RowKit
theorem qfm.log {S S':qe} (h:qfm S S'):(∀x∈S.log,x∈S'.log)/\S'.waits.length<=S.waits.length:=by
 induction h with
 |full _=>exact⟨λ_ h=>h,jcd _⟩
 |none _=>exact⟨λ_ h=>h,jcd _⟩
 |step _ _ _ ih=>exact⟨λx a=>ih.1 x (jcf.2 (.inl a)),jcn ih.2 (jdo _ _)⟩
end
section
open Go.RowKit
structure qy where
 p0:Int
 p1:Int
 p2:Int
 p3:Int
 opn:Bool
 s0:Int
 s1:Int
 s2:Int
 s3:Int
 ws:List Wr
def qez:qy:=⟨0,0,0,0,false,0,0,0,0,[]⟩
def qay (l:List Wr) (key:Int):Option Wr:=l.reverse.find? (λx=>decide (x.key=key))
theorem qmt (l:List Wr) (x:Wr) (key:Int):qay (l++[x]) key=if x.key=key then some x else qay l key:=by
 unfold qay;rw[List.reverse_append];by_cases h:x.key=key
 ·simp[h]
 simp[h]
theorem q5a {l:List Wr} {key:Int} {x:Wr} (h:qay l key=some x):x.key=key/\x∈l:=by
 unfold qay at h;have a:=List.find?_some h;have b:=List.mem_of_find?_eq_some h;exact⟨by simpa using a,by simpa using b⟩
def jh (l:List Wr):List Wr:=(List.range 8).filterMap (λ(k:Nat)=>qay l (k:Int))
def qak (l:List Wr) (k:Nat):List Wr:=(List.range k).filterMap (λ(k:Nat)=>qay l (k:Int))
theorem qim (l:List Wr) (k:Nat):qak l (k+1)=qak l k++(match qay l (k:Int)with|some x=>[x]|none=>[]):=by
 unfold qak;rw[List.range_succ,List.filterMap_append]
 cases h:qay l (k:Int)<;>simp[h]
theorem qkg (l:List Wr) (k:Nat):(qak l k).length<=k:=by
 unfold qak;have:=List.length_filterMap_le (λ(k:Nat)=>qay l (k:Int)) (List.range k);simpa using this
theorem qqj (l:List Wr) (x:Wr) (k:Nat) (c:0<=x.key):(qak (l++[x]) k).length=(qak l k).length+if x.key<k/\qay l x.key=none then 1 else 0:=by
 induction k with
 |zero=>simp[qak];omega
 |succ k ih=>
  rw[qim,qim,jcl,jcl,ih,qmt];by_cases h:x.key=(k:Int)
  ·rw[if_pos h,h];cases ho:qay l (k:Int)with
   |none=>
    rw[if_neg (by omega),if_pos ⟨by omega,rfl⟩];simp
   |some y=>
    rw[if_neg (by omega),if_neg (by simp)];simp
  rw[if_neg h]
  have e:(x.key<(k:Int)/\qay l x.key=none)↔(x.key<((k+1:Nat):Int)/\qay l x.key=none):=by
   constructor
   ·rintro ⟨a,b⟩;exact⟨by omega,b⟩
   rintro ⟨a,b⟩;exact⟨by omega,b⟩
  by_cases g:x.key<(k:Int)/\qay l x.key=none
  ·rw[if_pos g,if_pos (e.1 g)];omega
  rw[if_neg g,if_neg (λh=>g (e.2 h))];omega
def qhl (S:qe) (s:qy):Int:=if s.opn=true then 6 else if qa8 S.a0 S.a1 S.a2 S.a3 s.p0 s.p1 s.p2 s.p3=false then 10 else 0
def qhd (S:qe) (s:qy):qy:=if qhl S s=0 then {s with opn:=true,s0:=S.a0,s1:=S.a1,s2:=S.a2,s3:=S.a3,ws:=[]}else s
def vi (S:qe) (s:qy) (key:Int):ByteArray×Int:=
 if s.opn=false then (⟨#[]⟩,6)else match qay s.ws key with
    |some x=>if x.gone=true then (⟨#[]⟩,8)else (x.data,0)
    |none=>((qbq S key s.s0 s.s1 s.s2 s.s3).1.data,(qbq S key s.s0 s.s1 s.s2 s.s3).2)
def qaj (s:qy) (x:Wr):Int:=
 if s.opn=false then 6 else if x.key<0\/8<=x.key then 2 else if 12<x.data.size then 4 else if x.gone=true/\x.data.size≠0 then 1 else if qay s.ws x.key=none/\5<=(jh s.ws).length then 12 else 0
def qd2 (s:qy) (x:Wr):qy:=if qaj s x=0 then {s with ws:=s.ws++[x]}else s
def qc3 (s:qy):qy:=⟨jd s.p0 s.s0,jd s.p1 s.s1,jd s.p2 s.s2,jd s.p3 s.s3,false,0,0,0,0,[]⟩
def qi5 (s:qy):Int:=if s.opn=false then 6 else 0
def qhh (s:qy):qy:=if s.opn=false then s else qc3 s
def qeg (S:qe) (s:qy) (now:Int):Int:=if s.opn=false then 6 else if (jh s.ws).length=0 then 0 else qfl S now s.s0 s.s1 s.s2 s.s3 (jh s.ws)
def qce (S:qe) (s:qy) (now:Int):TxP:=if s.opn=false\/(jh s.ws).length=0 then ⟨0,0,0,0,0,0,0,0,[]⟩else qha S now s.s0 s.s1 s.s2 s.s3 (jh s.ws)
def atLeast (site seq:Int) (s:qy):qy:={s with p0:=if site=0 then jd s.p0 seq else s.p0,p1:=if site=1 then jd s.p1 seq else s.p1,p2:=if site=2 then jd s.p2 seq else s.p2,p3:=if site=3 then jd s.p3 seq else s.p3}
def j0 (S:qe) (s:qy) (now:Int):qy:=if qeg S s now≠0 then s else if (jh s.ws).length=0 then qc3 s else atLeast (qce S s now).site (qce S s now).seq (qc3 s)
def qcc (S:qe) (s:qy) (now:Int):qe:=if s.opn=false\/(jh s.ws).length=0 then S else qf3 S now s.s0 s.s1 s.s2 s.s3 (jh s.ws)
theorem j3.scom {S:qe} {s:qy} {now:Int} (h:j3 S):j3 (qcc S s now):=by
 unfold qcc qf3;split
 ·exact h
 split
 ·rename_i g;exact(qpk h g).1
 exact h
end
section
open Go.RowKit
def qd6 (S:qe) (h0 h1 h2 h3:Int):List TxP:=S.log.filter (λt=>decide (qp t.site h0 h1 h2 h3<t.seq))
variable {S:qe}
theorem qrt {log:List TxM} (h:log.map (·.t)=S.log) (a b c d:Int):(log.filter (qcs a b c d)).map (·.t)=qd6 S a b c d:=by
 unfold qd6;rw[<-h,List.filter_map];rfl
def q9i (w:World) (L:List TxP) (v:Value) (w':World):Prop:=∃kept:List TxM,kept.map (·.t)=L/\(∃B,w.heap.size<=B/\w'.ownsRow B 102 9 v kept.length (zw kept))/\(∀m∈kept,qr w' m.wa m.wc m.t.ws/\∀j,m.blk j->w.heap.size<=j)/\Bw w w'
theorem qtx {b:Nat} {G:Nat->Prop} (a c d f:Int) (w:World) (h:PS w b G S) (i:j3 S):
 Ca 258 #[PP b,.agg #[U a,U c,U d,U f]] w λe w'=>∃v,e=.returned v/\q9i w (qd6 S a c d f) v w':=by
 obtain⟨lv,bm,F,log,waits,h,g,_,_⟩:=h
 have r:log.length=S.log.length:=by rw[<-g];simp
 refine(qt1 a c d f w h (λm j=>i.lsite m.t (by rw[<-g];exact jcz.2 ⟨m,j,rfl⟩)) (by have:=i.log;omega)).mono λe w' ⟨v,k,l,n,o,p,q⟩=>⟨v,k,l,?_,o,p,q⟩;rw[<-n];exact qrt g _ _ _ _
end
section
open Go.RowKit
theorem qp2 {n:Int} {v:Bool} (h:(decide (0<=n)&&decide (n<4))=v) (w:World):
 Ca 165 #[U n] w λe w'=>e=.returned (.bool v)/\w'=w:=by
 by_cases a:0<=n;by_cases b:n<4
 have e:v=true:=by rw[<-h];simp[a,b]
 rotate_left
 have e:v=false:=by rw[<-h];simp[b]
 rotate_left
 have e:v=false:=by rw[<-h];simp[a]
 all_goals
  subst e;go_enter Tryz.func165,Tryz.ntmps165
  go_wp2_with fail
  go_ret;exact⟨rfl,rfl⟩
theorem jau {w:World} {id:Int} (b:List Value) (f:b=[U id,U 0,U 0,U 0,U 0,U 0,U 0,.slice none 0 0,.map (some w.heap.size),U 0,U 0,U 0,U 0,U 0,U 0,U 0,U 0,U 0,U 0,U 0,U 0,U 0,U 0,U 0,U 0,.slice none 0 0,.slice none 0 0,.slice none 0 0,.slice none 0 0,.slice none 0 0,.slice none 0 0,.slice none 0 0,.slice none 0 0]) (T:TypeId):
 PS ((w.alloc (.map #[] 0)).alloc (.cells b.toArray T)) (w.heap.size+1) (λk=>k=w.heap.size+1\/k=w.heap.size) (qg8 id):=by
 have l:(w.alloc (.map #[] 0)).heap.size=w.heap.size+1:=by simp
 have R:=qd.new (w:=w.alloc (.map #[] 0)) (T:=T) (n:=w.heap.size+1) b l
 generalize o:(w.alloc (.map #[] 0)).alloc (.cells b.toArray T)=W at R
 have d:=boxed (jcc _ (w.alloc (.map #[] 0))) (.cells b.toArray T);rw[o]at d;have p:=(qd5.made w).kept (d.block _ (qd5.made w).lt);subst f;refine⟨.slice none 0 0,w.heap.size,λk=>qfu (w.heap.size+1) (λ_=>.slice none 0 0) k,[],[],⟨⟨λj v c=>?_,λj a=>R.free j (by simp[qab]at a ⊢;omega),R.lt⟩,?_,jcx _ _ _ _,p,by simp[Value.ownBlock],by omega,by simp[Value.ownBlock],λk e=>by simp[Value.ownBlock]at e,?_,by simp⟩,rfl,rfl,λk=>?_⟩
 ·refine R.cell j v ?_
  have a:j<25:=by
   have:=(jck.1 c).1;simpa[qab]using this
  rw[<-c]
  match j,a with
  |0,_=>rfl
  |1,_=>rfl
  |2,_=>rfl
  |3,_=>rfl
  |4,_=>rfl
  |5,_=>rfl
  |6,_=>rfl
  |7,_=>rfl
  |8,_=>rfl
  |9,_=>rfl
  |10,_=>rfl
  |11,_=>rfl
  |12,_=>rfl
  |13,_=>rfl
  |14,_=>rfl
  |15,_=>rfl
  |16,_=>rfl
  |17,_=>rfl
  |18,_=>rfl
  |19,_=>rfl
  |20,_=>rfl
  |21,_=>rfl
  |22,_=>rfl
  |23,_=>rfl
  |24,_=>rfl
 ·refine⟨λ_=>.slice none 0 0,λ_=>[],⟨⟨λj v c=>?_,λj a=>R.free (25+j) (by simp at a ⊢;omega),R.lt⟩,λk _=>jcx _ _ _ _,λk _=>?_,λk _=>by simp[Value.ownBlock],λi j _ _ _ g e=>by simp[Value.ownBlock]at e⟩,?_,λk=>jdl⟩
  ·refine R.cell (25+j) v ?_;rw[<-c]
   have a:j<8:=by
        have:=(jck.1 c).1;simpa using this
   match j,a with
   |0,_=>rfl
   |1,_=>rfl
   |2,_=>rfl
   |3,_=>rfl
   |4,_=>rfl
   |5,_=>rfl
   |6,_=>rfl
   |7,_=>rfl
  ·exact List.Pairwise.nil
  exact⟨λk _=>by simp[qd3,qg8],λx q=>by simp[qg8]at q⟩
 ·rintro (h|⟨i,hi,h⟩)
  ·omega
  simp[Value.ownBlock]at h
 constructor
 ·rintro (h|h)
  ·exact .inl (.inl h)
  exact .inl (.inr (.inr (.inl h)))
 rintro ((h|h|h|h)|⟨m,r,h⟩)
 ·exact .inl h
 ·simp[Value.ownBlock]at h
 ·exact .inr h
 ·rcases h with h|⟨i,hi,h⟩
  ·exact .inl h
  simp[Value.ownBlock]at h
 simp at r
theorem q94 (id:Int) (w:World) (a:0<=id) (b:id<4):
 Ca 117 #[U id] w λe w'=>(e=.returned (.tuple #[PP (w.heap.size+1),.nilIface]))/\PS w' (w.heap.size+1) (λk=>k=w.heap.size+1\/k=w.heap.size) (qg8 id)/\Bw w w':=by
 have c:=qp2 (n:=id) (v:=true) (by simp[a,b]) w;have d:=@run_makeMap Tryz.prog;go_enter Tryz.func117,Tryz.ntmps117
 go_wp2_with fail
 refine c.mono ?_;rintro e w2 ⟨rfl,rfl⟩
 go_wp2_with fail
 exact bodyPost_ret (v:=.tuple #[PP (w2.heap.size+1),.nilIface]) (by simp[results,Tryz.results117,go_sem]) rfl ⟨rfl,jau _ rfl _,boxed (boxed (jcc _ _) _) _⟩
def vp (S:qe) (k:Nat) (x0 x1 x2 x3:Int):qe:={S with oth:=λj=>if j=k*4 then jd (S.oth j) x0 else if j=k*4+1 then jd (S.oth j) x1 else if j=k*4+2 then jd (S.oth j) x2 else if j=k*4+3 then jd (S.oth j) x3 else S.oth j}
end
section
open Go.RowKit
inductive GrB
 |tx (t:TxP)
 |ask (site a0 a1 a2 a3:Int)
structure GrS where
 to:Nat
 body:GrB
structure WoS where
 n:Nat
 c:Nat
 S:Nat->qe
 wall:Nat->Int
 ses:Nat->qy
 at_:Nat->Nat
 net:List GrS
 lost:Int
def jj {α:Type} (f:Nat->α) (i:Nat) (x:α):Nat->α:=λj=>if j=i then x else f j
variable {α:Type}
theorem qt (f:Nat->α) (i:Nat) (x:α):jj f i x i=x:=by simp[jj]
theorem yq (f:Nat->α) {i j:Nat} (x:α) (h:j≠i):jj f i x j=f j:=by simp[jj,h]
def qcb (n c:Nat):WoS:=⟨n,c,λi=>qg8 i,λ_=>0,λ_=>qez,λ_=>0,[],0⟩
def setSite (W:WoS) (i:Nat) (S':qe):WoS:={W with S:=jj W.S i S'}
def vf (W:WoS) (k:Nat) (s':qy):WoS:={W with ses:=jj W.ses k s'}
def zk (W:WoS) (g:GrS):WoS:=if 300<=W.net.length then {W with lost:=wrap64 (W.lost+1)}else {W with net:=W.net++[g]}
def qam (t:TxP):Nat->WoS->WoS
 |0,W=>W
 |k+1,W=>if (k:Int)=t.site then qam t k W else zk (qam t k W) ⟨k,.tx t⟩
def zl (other:Nat):List TxP->WoS->WoS
 |[],W=>W
 |t::l,W=>zl other l (if t.site=(other:Int)then W else zk W ⟨other,.tx t⟩)
def qbc (W:WoS) (k other:Nat) (v0 v1 v2 v3:Int):WoS:=
 zl other (qd6 (W.S k) v0 v1 v2 v3) (setSite W k (vp (W.S k) other v0 v1 v2 v3))
def qme (W:WoS) (k other:Nat):WoS:=zk W ⟨other,.ask k (W.S k).a0 (W.S k).a1 (W.S k).a2 (W.S k).a3⟩
def qeo (W:WoS) (g:GrS) (W':WoS):Prop:=
 match g.body with
 |.tx t=>∃S',zu (W.S g.to) t S'/\W'=setSite W g.to S'
 |.ask site v0 v1 v2 v3=>if 0<=site/\site<(W.n:Int)then W'=qbc W g.to site.toNat v0 v1 v2 v3 else W'=W
def qai (W:WoS) (i:Nat):WoS:={W with net:=W.net.eraseIdx i}
def zy (W:WoS) (i:Nat) (W':WoS):Prop:=∃g,W.net[i]?=some g/\qeo (qai W i) g W'
inductive qaf:WoS->WoS->Prop
 |none {W:WoS}:W.net=[]->qaf W W
 |step {W W1 W':WoS}:W.net≠[]->zy W 0 W1->qaf W1 W'->qaf W W'
inductive qdo (k:Nat):Nat->WoS->WoS->Prop
 |zero {W:WoS}:qdo k 0 W W
 |self {W W':WoS} {m:Nat}:qdo k m W W'->m=k->qdo k (m+1) W W'
 |ask {W W1 W':WoS} {m:Nat}:qdo k m W W1->m≠k->qaf (qme W1 k m) W'->qdo k (m+1) W W'
inductive qc1:Nat->WoS->WoS->Prop
 |zero {W:WoS}:qc1 0 W W
 |next {W W1 W':WoS} {m:Nat}:qc1 m W W1->qdo m W1.n W1 W'->qc1 (m+1) W W'
def qg9 (W W':WoS):Prop:=∃W1,qaf W W1/\qc1 W1.n W1 W'
variable {x:GrS}
section
variable {W W':WoS} {g:GrS} {t:TxP} {k other:Nat}
structure qf9 (W W':WoS):Prop where
 n:W'.n=W.n
 c:W'.c=W.c
 S:W'.S=W.S
 wall:W'.wall=W.wall
 ses:W'.ses=W.ses
 at_:W'.at_=W.at_
theorem qf9.refl (W:WoS):qf9 W W:=⟨rfl,rfl,rfl,rfl,rfl,rfl⟩
theorem qf9.trans {A B C:WoS} (h:qf9 A B) (k:qf9 B C):qf9 A C:=⟨k.n.trans h.n,k.c.trans h.c,k.S.trans h.S,k.wall.trans h.wall,k.ses.trans h.ses,k.at_.trans h.at_⟩
theorem yb (W:WoS) (g:GrS):qf9 W (zk W g):=by
 unfold zk
 split<;>exact⟨rfl,rfl,rfl,rfl,rfl,rfl⟩
theorem q1h (h:W.net.length<300):(zk W g).net=W.net++[g]:=by
 unfold zk;rw[if_neg (by omega)]
theorem qke (h:x∈(zk W g).net):x∈W.net\/x=g:=by
 unfold zk at h;split at h
 ·exact .inl h
 simpa using h
theorem zx (t:TxP):∀(k:Nat) (W:WoS),qf9 W (qam t k W)
 |0,W=>qf9.refl W
 |k+1,W=>by
  unfold qam;split
  ·exact zx t k W
  exact(zx t k W).trans (yb _ _)
theorem qm3:∀(k:Nat),x∈(qam t k W).net->x∈W.net\/(x.to<k/\x.body=.tx t)
 |0,h=>.inl h
 |k+1,h=>by
  unfold qam at h;split at h
  ·rcases qm3 k h with q|⟨q,r⟩
   ·exact .inl q
   exact .inr ⟨by omega,r⟩
  rcases qke h with q|q
  ·rcases qm3 k q with q|⟨q,r⟩
   ·exact .inl q
   exact .inr ⟨by omega,r⟩
  rw[q];exact .inr ⟨by show k<k+1;omega,rfl⟩
theorem qds (other:Nat):∀(l:List TxP) (W:WoS),qf9 W (zl other l W)
 |[],W=>qf9.refl W
 |t::l,W=>by
  unfold zl;refine qf9.trans ?_ (qds other l _);split
  ·exact qf9.refl _
  exact yb _ _
theorem qp9:∀(l:List TxP) (W:WoS),x∈(zl other l W).net->x∈W.net\/(x.to=other/\∃t∈l,t.site≠(other:Int)/\x.body=.tx t)
 |[],W,h=>.inl h
 |t::l,W,h=>by
  unfold zl at h;rcases qp9 l _ h with q|⟨q,y,a,r⟩
  ·split at q
   ·exact .inl q
   rename_i b;rcases qke q with q|q
   ·exact .inl q
   rw[q];exact .inr ⟨rfl,t,List.mem_cons_self,b,rfl⟩
  exact .inr ⟨q,y,jdc _ a,r⟩
end
end
section
open Go.RowKit
def qfp (b:Nat) (S:qe):qfr:=⟨λw G=>PS w b G S,λ_ _ h=>h.lt,λ_ _ _ h=>h.kept⟩
end
section
open Go.RowKit Go.Maps
def wrV (x:Wr):Value:=.agg #[.int .i64 x.key,.string x.data,.bool x.gone]
def qqt:Value:=.agg #[.int .i64 0,.string ⟨#[]⟩,.bool false]
theorem q82 (w:World):(zeroValue 100).run Tryz.prog w=.ok qqt w:=by kernel_rfl
theorem qtl:Keyed Tryz.prog 3:=int_keyed Tryz.underlying3
theorem q4f {k:Int} (h:wfI k):keyOf Tryz.prog 3 (.int .i64 k)=some (.int .i64 k):=by
 unfold keyOf;rw[Tryz.underlying3];simp[mapKey,q8f h,Tryz.underlying3]
theorem q0i (k:Int):WideAt.IsKeyLit (.int .i64 k):=trivial
structure qr7 (D:DataW Value) (l:List Wr):Prop where
 size:Maps.size D=(jh l).length
 has:∀k x,qay l k=some x->Maps.has D (.int .i64 k)=true/\∀z,D.atKey (.int .i64 k) z=.held (wrV x)
 no:∀k,qay l k=none->Maps.has D (.int .i64 k)=false/\∀z,D.atKey (.int .i64 k) z=z
def qes (w:World) (bm:Nat) (l:List Wr):Prop:=(∀x∈l,0<=x.key/\x.key<8)/\∃D,w.ownsMap Tryz.prog 3 qcd bm (jh l).length D/\qr7 D l
variable {w:World} {bm:Nat} {l:List Wr}
theorem qes.lt (h:qes w bm l):bm<w.heap.size:=by
 obtain⟨_,D,h,_⟩:=h;exact h.lt
variable {w':World}
theorem qes.kept (h:qes w bm l) (e:w'.heap[bm]?=w.heap[bm]?):qes w' bm l:=by
 obtain⟨a,D,⟨b,c,d,r⟩,f⟩:=h;exact⟨a,D,⟨b,c,by rw[e];exact d,r⟩,f⟩
theorem qes.made (w:World):qes (w.alloc (.map #[] 0)) w.heap.size []:=
 ⟨by simp,_,World.ownsMap_made w _ _ _,⟨rfl,λk x h=>by simp[qay]at h,λ_ _=>⟨rfl,λ_=>rfl⟩⟩⟩
theorem qqu (l:List Wr) (x:Wr) (a:0<=x.key) (b:x.key<8):(jh (l++[x])).length=if qay l x.key=none then (jh l).length+1 else (jh l).length:=by
 have:=qqj l x 8 a
 show (qak (l++[x]) 8).length=if qay l x.key=none then (qak l 8).length+1 else (qak l 8).length
 rw[this];by_cases h:qay l x.key=none
 ·rw[if_pos ⟨by omega,h⟩,if_pos h]
 rw[if_neg (λe=>h e.2),if_neg h];omega
variable {D:DataW Value} {x:Wr}
theorem qxh (f:Tidy D) (h:qr7 D l) (g:0<=x.key) (i:x.key<8):qr7 (D.put (.int .i64 x.key) (.held (wrV x))) (l++[x]):=by
 refine⟨?_,λk y a=>?_,λk c=>?_⟩
 ·rw[size_put f,qqu l x g i,h.size];cases ho:qay l x.key with
  |none=>rw[(h.no _ ho).1];simp
  |some y=>rw[(h.has _ _ ho).1];simp
 ·rw[qmt]at a;by_cases e:x.key=k
  ·rw[if_pos e]at a;injection a with a;subst a;subst e;exact⟨has_put_same f.isMap (q0i _) _,λz=>atKey_put_same f.isMap (q0i _) _ z⟩
  rw[if_neg e]at a;have d:(Lit.int .i64 k)≠.int .i64 x.key:=λb=>e (by injection b with _ b;exact b.symm);exact⟨by rw[has_put_other d];exact(h.has k y a).1,λz=>by rw[atKey_put_other d];exact(h.has k y a).2 z⟩
 rw[qmt]at c;by_cases e:x.key=k
 ·rw[if_pos e]at c;cases c
 rw[if_neg e]at c;have d:(Lit.int .i64 k)≠.int .i64 x.key:=λb=>e (by injection b with _ b;exact b.symm);exact⟨by rw[has_put_other d];exact(h.no k c).1,λz=>by rw[atKey_put_other d];exact(h.no k c).2 z⟩
theorem qes.put {n:Nat} (e:∀x∈l,0<=x.key/\x.key<8) (f:w.ownsMap Tryz.prog 3 qcd bm (jh l).length D) (g:qr7 D l) (a:0<=x.key) (b:x.key<8)
 (i:w'.ownsMap Tryz.prog 3 qcd bm n (D.put (.int .i64 x.key) (.held (wrV x)))):qes w' bm (l++[x]):=by
 have c:=qxh (f.tidy qtl) g a b;refine⟨λy j=>?_,_,?_,c⟩
 ·rcases jcf.1 j with h|h
  ·exact e y h
  rw[jcj.1 h];exact⟨a,b⟩
 obtain⟨k,m,o,p,q,d⟩:=i;refine⟨k,m,o,p,?_,d⟩;have:=c.size;rw[d]at this;simp[Maps.size,length_sorted]at this;omega
end
section
open Go.RowKit
variable {l:List Wr}
theorem q8d {i:Nat} {x:Wr} {key:Int} (h:l[i]?=some x) (c:x.key=key) (d:∀j y,i<j->l[j]?=some y->y.key≠key):qay l key=some x:=by
 have f:=(jck.1 h).1
 have e:l=l.take i++(x::l.drop (i+1)):=by
  have a:=jds i l;rw[jdy f]at a;have g:l[i]=x:=(jck.1 h).2;rw[g]at a;exact a.symm
 have k:(l.drop (i+1)).reverse.find? (λx=>decide (x.key=key))=none:=by
  rw[List.find?_eq_none];intro y m;obtain⟨j,b⟩:=List.getElem?_of_mem (List.mem_reverse.1 m);rw[List.getElem?_drop]at b;have:=d (i+1+j) y (by omega) b;simpa using this
 unfold qay;rw[e,List.reverse_append,List.reverse_cons,jcy,List.find?_append,k];simp[c]
theorem q15 {key:Int} (a:∀(j:Nat) (y:Wr),l[j]?=some y->y.key≠key):qay l key=none:=by
 unfold qay;rw[List.find?_eq_none];intro y b;obtain⟨j,c⟩:=List.getElem?_of_mem (List.mem_reverse.1 b);have:=a j y c;simpa using this
def qav (l:List Wr) (key:Int):Wr:=(qay l key).getD ⟨0,⟨#[]⟩,false⟩
def jr (s:qy) (wv:Value):List Value:=[U s.p0,U s.p1,U s.p2,U s.p3,U s.s0,U s.s1,U s.s2,U s.s3,.bool s.opn,wv]
structure qgs (w:World) (b:Nat) (wv:Value) (s:qy):Prop where
 box:qd w b (jr s wv)
 row:w.ownsRow 0 100 3 wv s.ws.length (qcf s.ws)
 nb:wv.ownBlock≠some b
theorem qgs.later {w w':World} {b:Nat} {wv:Value} {s:qy} (h:qgs w b wv s) (a:Bw w w'):qgs w' b wv s:=⟨h.box.later a,qf h.row (λk e=>a.block k (h.row.lt k e).2),h.nb⟩
end
section
open Go.RowKit Go.Maps
variable {b:Nat} {G:Nat->Prop} {S:qe}
theorem PS.mem {w:World} (h:PS w b G S):∃lv bm F log waits,zf w b lv bm F S log waits/\log.length=S.log.length/\waits.length=S.waits.length:=by
 obtain⟨lv,bm,F,log,waits,h,a,c,_⟩:=h;exact⟨lv,bm,F,log,waits,h,by rw[<-a];simp,by rw[<-c];simp⟩
theorem j3.many (h:j3 S):S.l.length<=1000:=by
 have:=h.len;have:=h.log;omega
theorem qff (w:World) (h:PS w b G S):
 Ca 143 #[PP b] w (Rn (.agg #[U S.a0,U S.a1,U S.a2,U S.a3]) w):=by
 obtain⟨lv,bm,F,log,waits,a,_,_⟩:=h.mem;have c:=a.box.cell 1 _ rfl;have d:=a.box.cell 2 _ rfl;have e:=a.box.cell 3 _ rfl;have f:=a.box.cell 4 _ rfl;have g:=a.box.lt;go_enter Tryz.func143,Tryz.ntmps143
 go_wp2_with fail
 exact bodyPost_ret (v:=.agg #[U S.a0,U S.a1,U S.a2,U S.a3]) (by simp[results,Tryz.results143,go_sem]) rfl ⟨rfl,boxed (jcc _ _) _⟩
end
section
open Go.RowKit
def yj (s:qy) (mv:Value):List Value:=[U s.p0,U s.p1,U s.p2,U s.p3,.bool s.opn,U s.s0,U s.s1,U s.s2,U s.s3,mv]
def jbu (w:World) (b:Nat) (s:qy) (mv:Value) (G:Nat->Prop):Prop:=
 (s.opn=false/\mv=.map none/\s.ws=[]/\∀k,G k↔k=b)\/(s.opn=true/\∃bm,mv=.map (some bm)/\bm≠b/\qes w bm s.ws/\∀k,G k↔(k=b\/k=bm))
def PSe (w:World) (b:Nat) (G:Nat->Prop) (s:qy):Prop:=∃mv,qd w b (yj s mv)/\jbu w b s mv G
variable {w:World} {b:Nat} {G:Nat->Prop} {s:qy}
theorem PSe.lt (h:PSe w b G s):∀k,G k->k<w.heap.size:=by
 obtain⟨mv,d,⟨_,_,_,a⟩|⟨_,bm,_,_,f,a⟩⟩:=h
 ·intro k c;rw[(a k).1 c];exact d.lt
 intro k c;rcases(a k).1 c with e|e
 ·rw[e];exact d.lt
 rw[e];exact f.lt
theorem PSe.own (h:PSe w b G s):G b:=by
 obtain⟨mv,c,⟨_,_,_,a⟩|⟨_,bm,_,_,d,a⟩⟩:=h
 ·exact(a b).2 rfl
 exact(a b).2 (.inl rfl)
variable {w':World}
theorem PSe.kept (h:PSe w b G s) (e:∀k,G k->w'.heap[k]?=w.heap[k]?) (g:w.heap.size<=w'.heap.size):PSe w' b G s:=by
 have i:=h.own;obtain⟨mv,j,⟨a,f,c,d⟩|⟨a,bm,f,c,l,d⟩⟩:=h
 ·exact⟨mv,j.kept (e b i) g,.inl ⟨a,f,c,d⟩⟩
 exact⟨mv,j.kept (e b i) g,.inr ⟨a,bm,f,c,l.kept (e bm ((d bm).2 (.inr rfl))),d⟩⟩
theorem PSe.later (h:PSe w b G s) (a:Bw w w'):PSe w' b G s:=h.kept (λk c=>a.block k (h.lt k c)) a.size
def qix (b:Nat) (s:qy):qfr:=⟨λw G=>PSe w b G s,λ_ _ h=>h.lt,λ_ _ _ h=>h.kept⟩
def qc8 (w:World) (b:Nat) (G:Nat->Prop) (s':qy) (w':World):Prop:=∃G',PSe w' b G' s'/\(∀k,G' k->G k\/w.heap.size<=k)/\qc G w w'
theorem qc8.same (h:PSe w b G s) (a:Bw w w'):qc8 w b G s w':=⟨G,h.later a,λ_ c=>.inl c,qc.ofBelow a⟩
variable {w2:World} {G1:Nat->Prop}
theorem qc8.trans {a:World} {c:qy} (d:∀k,G1 k->G k\/w.heap.size<=k) (e:qc G w a) (h:qc8 a b G1 c w2):qc8 w b G c w2:=by
 obtain⟨g,i,j,l⟩:=h;refine⟨g,i,λk m=>?_,e.more l d⟩;rcases j k m with f|f
 ·exact d k f
 exact .inr (by have:=e.size;omega)
theorem q9y (T:TypeId):PSe (w.alloc (.cells (yj qez (.map none)).toArray T)) w.heap.size (λk=>k=w.heap.size) qez:=
 ⟨.map none,qd.new (w:=w) (T:=T) _ rfl,.inl ⟨rfl,rfl,rfl,λ_=>jdl⟩⟩
variable {mv:Value}
theorem q8i (a:G b) (c:Bw w w2) (B:qd w2 b (yj s mv)) (x0 x1 x2 x3:Int):
 qc8 w b G ⟨x0,x1,x2,x3,false,0,0,0,0,[]⟩ ((((((((((w2.setCell (AD b 0) (U x0)).setCell (AD b 1) (U x1)).setCell (AD b 2) (U x2)).setCell (AD b 3) (U x3)).setCell (AD b 4) (.bool false)).setCell (AD b 5) (U 0)).setCell (AD b 6) (U 0)).setCell (AD b 7) (U 0)).setCell (AD b 8) (U 0)).setCell (AD b 9) (.map none)):=by
 have d:=B.set 0 (U x0) (by simp[yj]);have e:=d.set 1 (U x1) (by simp[yj]);have f:=e.set 2 (U x2) (by simp[yj]);have g:=f.set 3 (U x3) (by simp[yj]);have h:=g.set 4 (.bool false) (by simp[yj]);have i:=h.set 5 (U 0) (by simp[yj]);have j:=i.set 6 (U 0) (by simp[yj]);have l:=j.set 7 (U 0) (by simp[yj]);have m:=l.set 8 (U 0) (by simp[yj]);have n:=m.set 9 (.map none) (by simp[yj]);refine⟨λk=>k=b,⟨.map none,n,.inl ⟨rfl,rfl,rfl,λ_=>jdl⟩⟩,λk o=>.inl (by rw[o];exact a),?_⟩;have T:=qc.ofBelow (F:=G) c;refine T.trans ?_;exact(((((((((qc.setCell _ _ _ a).trans (qc.setCell _ _ _ a)).trans (qc.setCell _ _ _ a)).trans (qc.setCell _ _ _ a)).trans (qc.setCell _ _ _ a)).trans (qc.setCell _ _ _ a)).trans (qc.setCell _ _ _ a)).trans (qc.setCell _ _ _ a)).trans (qc.setCell _ _ _ a)).trans (qc.setCell _ _ _ a)
theorem q37 {bm:Nat} (a:G b) (d:Bw w w2) (B:qd w2 b (yj s mv)) (e:qes w2 bm []) (o:w.heap.size<=bm) (p:b<w.heap.size) (a0 a1 a2 a3:Int):
 qc8 w b G {s with opn:=true,s0:=a0,s1:=a1,s2:=a2,s3:=a3,ws:=[]} ((((((w2.setCell (AD b 4) (.bool true)).setCell (AD b 5) (U a0)).setCell (AD b 6) (U a1)).setCell (AD b 7) (U a2)).setCell (AD b 8) (U a3)).setCell (AD b 9) (.map (some bm))):=by
 have f:=B.set 4 (.bool true) (by simp[yj]);have g:=f.set 5 (U a0) (by simp[yj]);have i:=g.set 6 (U a1) (by simp[yj]);have j:=i.set 7 (U a2) (by simp[yj]);have l:=j.set 8 (U a3) (by simp[yj]);have m:=l.set 9 (.map (some bm)) (by simp[yj])
 have c:bm≠b:=by omega
 refine⟨λk=>k=b\/k=bm,⟨.map (some bm),m,.inr ⟨rfl,bm,rfl,c,e.kept ?_,λ_=>jdl⟩⟩,λk n=>?_,?_⟩
 ·rw[jce _ _ _ _ c,jce _ _ _ _ c,jce _ _ _ _ c,jce _ _ _ _ c,jce _ _ _ _ c,jce _ _ _ _ c]
 ·rcases n with h|h
  ·exact .inl (by rw[h];exact a)
  exact .inr (by omega)
 have T:=qc.ofBelow (F:=G) d;refine T.trans ?_;exact(((((qc.setCell _ _ _ a).trans (qc.setCell _ _ _ a)).trans (qc.setCell _ _ _ a)).trans (qc.setCell _ _ _ a)).trans (qc.setCell _ _ _ a)).trans (qc.setCell _ _ _ a)
theorem q7c (h:PSe w2 b G1 s) (d:∀k,G1 k->G k\/w.heap.size<=k) (e:G b) (f:qc G w w2) (n:Nat) (g:n<4) (x:Int):
 qc8 w b G {s with p0:=if n=0 then x else s.p0,p1:=if n=1 then x else s.p1,p2:=if n=2 then x else s.p2,p3:=if n=3 then x else s.p3} (w2.setCell (AD b n) (U x)):=by
 obtain⟨mv,B,i⟩:=h;have R:=B.set n (U x) (by simp[yj];omega);refine⟨G1,⟨mv,?_,?_⟩,d,f.trans (qc.setCell _ _ _ e)⟩
 ·match n,g with
  |0,_=>exact R
  |1,_=>exact R
  |2,_=>exact R
  |3,_=>exact R
 rcases i with j|⟨a,bm,l,c,m,o⟩
 ·exact .inl j
 exact .inr ⟨a,bm,l,c,m.kept (jce _ _ _ _ c),o⟩
end
section
open Go.RowKit
def qum (b:Nat) (x:Int):List Value:=[PP b,U x]
def zt (bp:Nat->Nat) (x:Nat->Int) (n:Nat):List Value:=(List.range n).flatMap (λi=>qum (bp i) (x i))
structure GrM where
 g:GrS
 blk:Nat
 cap:Nat
 S:ByteArray
def qpe (m:GrM):List Value:=[U m.g.to,.slice (PT m.blk) m.S.size m.cap]
def qap (l:List GrM):List Value:=l.flatMap qpe
def txv (t:TxP):TxV:=⟨t.site,t.seq,t.wall,t.count,t.d0,t.d1,t.d2,t.d3,t.ws⟩
def jaw (L:List UInt8):GrB->Prop
 |.tx t=>ql3 L (txv t)
 |.ask site a0 a1 a2 a3=>qdj L ⟨site,a0,a1,a2,a3⟩
structure GrM.Ok (w:World) (m:GrM):Prop where
 own:Own w 0 m.blk m.cap m.S
 size:m.S.size<=1000000
 is:jaw (toL m.S) m.g.body
variable {w:World} {m:GrM}
theorem GrM.Ok.kept {w':World} (h:m.Ok w) (a:w'.heap[m.blk]?=w.heap[m.blk]?) (c:w.heap.size<=w'.heap.size):m.Ok w':=⟨h.own.kept a c,h.size,h.is⟩
theorem qjw {α:Type} (f:α->List Value) (a:∀x,(f x).length=2):∀(l:List α) (i r:Nat) (x:α) (u:Value),l[i]?=some x->(f x)[r]?=some u->(l.flatMap f)[i*2+r]?=some u
 |[],i,r,x,u,h,_=>by simp at h
 |y::l,0,r,x,u,h,hu=>by
  have e:y=x:=by simpa using h
  subst e
  have c:r<2:=by have:=(jck.1 hu).1;rw[a]at this;exact this
  rw[List.flatMap_cons,Nat.zero_mul,Nat.zero_add,jc3 (by rw[a];exact c)];exact hu
 |y::l,i+1,r,x,u,h,hu=>by
  have d:l[i]?=some x:=by simpa using h
  rw[List.flatMap_cons,jc0 (by rw[a];omega),a,show (i+1)*2+r-2=i*2+r by omega];exact qjw f a l i r x u d hu
variable {n i:Nat}
theorem qea {bp:Nat->Nat} {x:Nat->Int} (hi:i<n):(zt bp x n)[i*2]?=some (PP (bp i))/\(zt bp x n)[i*2+1]?=some (U (x i)):=
 ⟨qjw _ (λ_=>rfl) _ i 0 i _ (List.getElem?_range hi) rfl,qjw _ (λ_=>rfl) _ i 1 i _ (List.getElem?_range hi) rfl⟩
theorem qtm {l:List GrM} (hi:l[i]?=some m):(qap l)[i*2]?=some (U m.g.to)/\(qap l)[i*2+1]?=some (.slice (PT m.blk) m.S.size m.cap):=
 ⟨qjw _ (λ_=>rfl) _ i 0 m _ hi rfl,qjw _ (λ_=>rfl) _ i 1 m _ hi rfl⟩
theorem qkr (bp:Nat->Nat) (x:Nat->Int):∀n,(zt bp x n).length=n*2
 |0=>rfl
 |n+1=>by
  unfold zt;rw[List.range_succ,List.flatMap_append,jcl];have:=qkr bp x n;unfold zt at this;rw[this];simp[qum];omega
theorem qgz (l:List GrM):(qap l).length=l.length*2:=by
 induction l with
 |nil=>rfl
 |cons x l ih=>
  show (qpe x++qap l).length=_;rw[jcl,ih];simp[qpe];omega
structure jbd (w:World) (a:Option Addr) (cap n:Nat) (L:List Value):Prop where
 len:n<=cap
 cap:cap<=9223372036854775807
 held:n=0\/∃g,a=some (AD g 0)/\g<w.heap.size/\∀j u,L[j]?=some u->w.cell? (AD g j)=some u
variable {k:Nat}
theorem qq {B:Nat} {T:TypeId} {v:Value} {L:List Value} (h:w.ownsRow B T k v n L):∃a cap,v=.slice a n cap/\jbd w a cap n L:=by
 have c:=h;rcases h.2 with ⟨rfl,d⟩|⟨g,cap,cur,rfl,p,q,f,l,r,s⟩
 ·exact⟨none,0,by rw[d],⟨by omega,by omega,.inl d⟩⟩
 refine⟨_,cap,rfl,⟨f,by simp only[maxLen]at l;omega,.inr ⟨g,rfl,(c.lt g rfl).2,λj u o=>?_⟩⟩⟩;have e:=c.cells (g:=g) rfl j u o;rw[qal]at e;exact e
structure WoM where
 pv:Value
 cv:Value
 nv:Value
 bp:Nat->Nat
 bs:Nat->Nat
 l:List GrM
def qfw (b:Nat) (M:WoM) (k:Nat):Prop:=k=b\/M.pv.ownBlock=some k\/M.cv.ownBlock=some k\/M.nv.ownBlock=some k\/∃m∈M.l,m.blk=k
def qci (M:WoM) (W:WoS):Nat->qfr:=λi=>if i<W.n then qfp (M.bp i) (W.S i)else qix (M.bs (i-W.n)) (W.ses (i-W.n))
structure PWo (w:World) (b:Nat) (M:WoM) (W:WoS) (Gs:Nat->Nat->Prop):Prop where
 box:qd w b [M.pv,M.cv,M.nv,U W.lost]
 pr:w.ownsRow 0 167 2 M.pv W.n (zt M.bp W.wall W.n)
 cr:w.ownsRow 0 171 2 M.cv W.c (zt M.bs (λk=>(W.at_ k:Int)) W.c)
 nr:w.ownsRow 0 205 2 M.nv M.l.length (qap M.l)
 nl:M.l.map (·.g)=W.net
 gr:∀m∈M.l,m.Ok w
 fam:zh w (W.n+W.c) (qci M W) Gs (qfw b M) (W.n+W.c) NoY
 sb:M.pv.ownBlock≠some b/\M.cv.ownBlock≠some b/\M.nv.ownBlock≠some b
 sr:∀k,(M.pv.ownBlock=some k->M.cv.ownBlock≠some k/\M.nv.ownBlock≠some k)/\(M.cv.ownBlock=some k->M.nv.ownBlock≠some k)
 sg:∀m∈M.l,m.blk≠b/\M.pv.ownBlock≠some m.blk/\M.cv.ownBlock≠some m.blk/\M.nv.ownBlock≠some m.blk
section
variable {w w':World} {b:Nat} {M:WoM} {W:WoS} {Gs:Nat->Nat->Prop}
theorem PWo.site (h:PWo w b M W Gs) (hi:i<W.n):PS w (M.bp i) (Gs i) (W.S i):=by
 have:=h.fam.is i (by omega);unfold qci at this;rw[if_pos hi]at this;exact this
theorem PWo.sess (h:PWo w b M W Gs) (a:k<W.c):PSe w (M.bs k) (Gs (W.n+k)) (W.ses k):=by
 have:=h.fam.is (W.n+k) (by omega);unfold qci at this;rw[if_neg (by omega),show W.n+k-W.n=k by omega]at this;exact this
theorem PWo.keep (h:PWo w b M W Gs) {W':WoS} {d:Nat->Nat->Prop} (a:jg (qfw b M) w w') (l:zh w' (W.n+W.c) (qci M W') d (qfw b M) (W.n+W.c) NoY) (f:W'.n=W.n) (g:W'.c=W.c) (o:W'.wall=W.wall) (p:W'.at_=W.at_) (q:W'.net=W.net) (r:W'.lost=W.lost):PWo w' b M W' d:=by
 refine⟨?_,?_,?_,qf h.nr (λk e=>a.block k (.inr (.inr (.inr (.inl e))))),by rw[q];exact h.nl,λm j=>(h.gr m j).kept (a.block _ (.inr (.inr (.inr (.inr ⟨m,j,rfl⟩))))) a.size,by rw[f,g];exact l,h.sb,h.sr,h.sg⟩
 ·rw[r];exact h.box.keeps a (.inl rfl)
 ·rw[f,o];exact qf h.pr (λk e=>a.block k (.inr (.inl e)))
 rw[g,p];exact qf h.cr (λk e=>a.block k (.inr (.inr (.inl e))))
end
def qmp (b:Nat) (M:WoM) (N:Nat) (Gs:Nat->Nat->Prop) (k:Nat):Prop:=qfw b M k\/∃i,i<N/\Gs i k
def PW (w:World) (b:Nat) (G:Nat->Prop) (W:WoS):Prop:=∃M Gs,PWo w b M W Gs/\∀k,G k↔qmp b M (W.n+W.c) Gs k
section
variable {w w':World} {b:Nat} {G:Nat->Prop} {M:WoM} {W:WoS} {Gs:Nat->Nat->Prop}
theorem PWo.ltF (h:PWo w b M W Gs):∀k,qfw b M k->k<w.heap.size:=λk a=>(h.fam.free k a).1
theorem PWo.ltG (h:PWo w b M W Gs) (hi:i<W.n+W.c) (a:Gs i k):k<w.heap.size:=(qci M W i).lt _ _ (h.fam.is i hi) k a
theorem PW.lt (h:PW w b G W):∀k,G k->k<w.heap.size:=by
 obtain⟨M,Gs,h,a⟩:=h;intro k c;rcases(a k).1 c with q|⟨i,hi,q⟩
 ·exact h.ltF k q
 exact h.ltG hi q
theorem PW.kept (h:PW w b G W) (f:∀k,G k->w'.heap[k]?=w.heap[k]?) (c:w.heap.size<=w'.heap.size):PW w' b G W:=by
 obtain⟨M,Gs,h,d⟩:=h;have a:=λk q=>f k ((d k).2 (.inl q));refine⟨M,Gs,⟨h.box.kept (a b (.inl rfl)) c,qf h.pr (λk e=>a k (.inr (.inl e))),qf h.cr (λk e=>a k (.inr (.inr (.inl e)))),qf h.nr (λk e=>a k (.inr (.inr (.inr (.inl e))))),h.nl,λm g=>(h.gr m g).kept (a _ (.inr (.inr (.inr (.inr ⟨m,g,rfl⟩))))) c,h.fam.to (λj k l e=>f k ((d k).2 (.inr ⟨j,l,e⟩))) c (λk e=>⟨.inl e,jci (h.ltF k e) c⟩),h.sb,h.sr,h.sg⟩,d⟩
theorem PW.later (h:PW w b G W) (a:Bw w w'):PW w' b G W:=h.kept (λk c=>a.block k (h.lt k c)) a.size
end
def woP (b:Nat) (W:WoS):qfr:=⟨λw G=>PW w b G W,λ_ _ h=>h.lt,λ_ _ _ h=>h.kept⟩
def vh (w:World) (b:Nat) (G:Nat->Prop) (W':WoS) (w':World):Prop:=qbi (woP b W') w G w'
section
variable {w w':World} {b:Nat} {G:Nat->Prop} {M:WoM} {W:WoS} {Gs:Nat->Nat->Prop}
theorem vh.same (h:PW w b G W) (a:Bw w w'):vh w b G W w':=⟨G,h.later a,λ_ c=>.inl c,qc.ofBelow a⟩
theorem PWo.stepS (h:PWo w b M W Gs) (d:∀k,G k↔qmp b M (W.n+W.c) Gs k) (hi:i<W.n) {S':qe} (t:PPo w (M.bp i) (Gs i) S' w'):vh w b G (setSite W i S') w':=by
 obtain⟨o,f,g,u,a⟩:=h.fam.stepG (ps':=qci M (setSite W i S')) (i:=i) (by omega) (p:=qfp (M.bp i) S') t (by show (if i<W.n then _ else _)=_;rw[if_pos hi];show qfp (M.bp i) (jj W.S i S' i)=_;rw[qt]) (λj s v=>by
  show (if j<W.n then qfp (M.bp j) (jj W.S i S' j)else _)=(if j<W.n then _ else _);rw[yq _ _ v]
  rfl)
 refine⟨qmp b M (W.n+W.c) o,⟨M,o,h.keep u f rfl rfl rfl rfl rfl rfl,λ_=>jdl⟩,λk l=>?_,⟨a.os,a.tape,a.output,a.size,λk l x=>a.block k l (λe=>x ((d k).2 (.inr ⟨i,by omega,e⟩)))⟩⟩;rcases l with q|⟨j,s,q⟩
 ·exact .inl ((d k).2 (.inl q))
 rcases g j k q with r|r
 ·exact .inl ((d k).2 (.inr ⟨j,s,r⟩))
 exact .inr r
theorem PWo.stepC (h:PWo w b M W Gs) (l:∀k,G k↔qmp b M (W.n+W.c) Gs k) (hi:i<W.c) {a:qy} (u:qc8 w (M.bs i) (Gs (W.n+i)) a w'):vh w b G (vf W i a) w':=by
 obtain⟨s,f,g,v,d⟩:=h.fam.stepG (ps':=qci M (vf W i a)) (i:=W.n+i) (by omega) (p:=qix (M.bs i) a) u (by show (if W.n+i<W.n then _ else _)=_;rw[if_neg (by omega)];show qix (M.bs (W.n+i-W.n)) (jj W.ses i a (W.n+i-W.n))=_;rw[show W.n+i-W.n=i by omega,qt]) (λj t y=>by
  show (if j<W.n then _ else qix (M.bs (j-W.n)) (jj W.ses i a (j-W.n)))=(if j<W.n then _ else _);by_cases q:j<W.n
  ·rw[if_pos q,if_pos q];rfl
  rw[if_neg q,if_neg q,yq _ _ (by omega)])
 refine⟨qmp b M (W.n+W.c) s,⟨M,s,h.keep v f rfl rfl rfl rfl rfl rfl,λ_=>jdl⟩,λk o=>?_,⟨d.os,d.tape,d.output,d.size,λk o x=>d.block k o (λe=>x ((l k).2 (.inr ⟨W.n+i,by omega,e⟩)))⟩⟩;rcases o with q|⟨j,t,q⟩
 ·exact .inl ((l k).2 (.inl q))
 rcases g j k q with r|r
 ·exact .inl ((l k).2 (.inr ⟨j,t,r⟩))
 exact .inr r
end
end
section
open Tryz Go.RowKit
theorem q2h (w:World):Ca 118 #[] w λe w'=>e=.returned (PP w.heap.size)/\PSe w' w.heap.size (λk=>k=w.heap.size) qez/\Bw w w':=by
 go_enter func118,ntmps118
 go_wp2_with fail
 go_ret;exact⟨rfl,q9y _,boxed (jcc _ w) _⟩
variable {b:Nat} {G:Nat->Prop} {s:qy}
theorem qmk (w:World) (h:PSe w b G s):
 Ca 149 #[PP b] w (Rn (.bool s.opn) w):=by
 obtain⟨a,B,_⟩:=h;have c:=B.cell 4 _ rfl;go_enter func149,ntmps149
 go_wp2_with fail
 go_ret;exact⟨rfl,jcc _ _⟩
theorem qm7 {f:Func} {tmps:Array Value} {w:World} {x0 x1 x2 x3:Int} (a:f.results=#[.cell 2 77]) (h:qd w b [U x0,U x1,U x2,U x3]) (c:tmps[2]?=some (PP b)):
 (results f tmps).run prog w=.ok (.agg #[U x0,U x1,U x2,U x3]) w:=by
 have d:=h.cell 0 _ rfl;have e:=h.cell 1 _ rfl;have g:=h.cell 2 _ rfl;have i:=h.cell 3 _ rfl;simp[results,a,go_sem,c,d,e,g,i]
theorem q00 (w:World) (h:PSe w b G s):
 Ca 147 #[PP b] w (Rn (.agg #[U s.p0,U s.p1,U s.p2,U s.p3]) w):=by
 obtain⟨a,B,_⟩:=h;have c:=B.cell 0 _ rfl;have d:=B.cell 1 _ rfl;have e:=B.cell 2 _ rfl;have f:=B.cell 3 _ rfl;have g:=B.lt;go_enter func147,ntmps147
 go_wp2_with fail
 exact bodyPost_ret (qm7 results147 (qd.new (w:=w) (T:=77) [U s.p0,U s.p1,U s.p2,U s.p3] rfl) rfl) rfl ⟨rfl,boxed (jcc _ w) _⟩
theorem qrq (w:World) (h:PSe w b G s):
 Ca 148 #[PP b] w (Rn (.agg #[U s.s0,U s.s1,U s.s2,U s.s3]) w):=by
 obtain⟨a,B,_⟩:=h;have c:=B.cell 5 _ rfl;have d:=B.cell 6 _ rfl;have e:=B.cell 7 _ rfl;have f:=B.cell 8 _ rfl;have g:=B.lt;go_enter func148,ntmps148
 go_wp2_with fail
 exact bodyPost_ret (qm7 results148 (qd.new (w:=w) (T:=77) [U s.s0,U s.s1,U s.s2,U s.s3] rfl) rfl) rfl ⟨rfl,boxed (jcc _ w) _⟩
theorem qom (w:World) (h:PSe w b G s):
 Ca 200 #[PP b] w λe w'=>e=.returned (.tuple #[])/\qc8 w b G (qc3 s) w':=by
 have g:=h.own;obtain⟨k,B,_⟩:=h;have i:=hd1 B;have d:Bw w w.drew:=(jcc _ w).drew;have c:=B.later d;go_enter func200,ntmps200
 go_wp2_with fail
 have l:=c.cell 0 _ rfl;have m:=c.cell 1 _ rfl;have n:=c.cell 2 _ rfl;have o:=c.cell 3 _ rfl;have p:=c.cell 5 _ rfl;have q:=c.cell 6 _ rfl;have r:=c.cell 7 _ rfl;have t:=c.cell 8 _ rfl
 go_region_law (refine je rfl 240 #[.agg #[U s.p0,U s.p1,U s.p2,U s.p3],.agg #[U s.s0,U s.s1,U s.s2,U s.s3]] (by go_simp) (qzz s.p0 s.p1 s.p2 s.p3 s.s0 s.s1 s.s2 s.s3 _) ?_
                rintro e u ⟨rfl,j⟩;refine⟨_,rfl,?_⟩;have f:=qa d j;have a:=i.out.later f;have v:=a.cell 0 _ rfl;have x:=a.cell 1 _ rfl;have y:=a.cell 2 _ rfl;have z:=a.cell 3 _ rfl;have C:=a.cell 4 _ rfl;have D:=a.cell 5 _ rfl;have E:=a.cell 6 _ rfl;have F:=a.cell 7 _ rfl;have H:=a.cell 8 _ rfl;have I:=a.cell 9 _ rfl;have J:=a.free 0 (by simp[yj]);have f1:=a.free 1 (by simp[yj]);have K:=a.free 2 (by simp[yj]);have L:=a.free 3 (by simp[yj]);have M:=a.free 4 (by simp[yj]);have N:=a.free 5 (by simp[yj]);have O:=a.free 6 (by simp[yj]);have P:=a.free 7 (by simp[yj]);have Q:=a.free 8 (by simp[yj])
                have R:=a.free 9 (by simp[yj]))
 all_goals
  go_wp2_with fail
  go_end0;exact⟨rfl,q8i g f a _ _ _ _⟩
theorem qw7 (w:World) (h:PSe w b G s):
 Ca 139 #[PP b] w λe w'=>e=.returned (jc (qi5 s))/\qc8 w b G (qhh s) w':=by
 have c:=hd1 h;obtain⟨i,B,_⟩:=h;have d:=B.cell 4 _ rfl;cases ho:s.opn
 ·rw[ho]at d;have a:Hid (qi5 s=6/\qhh s=s):=⟨by unfold qi5;rw[ho];rfl,by unfold qhh;rw[ho];rfl⟩;go_enter func139,ntmps139
  go_wp2_with fail
  go_ret;refine⟨by rw[a.out.1];rfl,?_⟩;rw[a.out.2];exact qc8.same c.out (jcc _ _)
 rw[ho]at d;have a:Hid (qi5 s=0/\qhh s=qc3 s):=⟨by unfold qi5;rw[ho];rfl,by unfold qhh;rw[ho];rfl⟩;have f:=qom w c.out;go_enter func139,ntmps139
 go_wp2_with fail
 refine f.mono ?_;rintro e j ⟨rfl,g⟩
 go_wp2_with fail
 go_ret;refine⟨by rw[a.out.1];rfl,?_⟩;rw[a.out.2];exact g
theorem qyu {i:Nat} {n:Nat->Prop} {S:qe} (w:World) (h:PSe w b G s) (o:PS w i n S):
 Ca 145 #[PP b,PP i] w λe w'=>e=.returned (jc (qhl S s))/\qc8 w b G (qhd S s) w':=by
 have p:=h.own;have d:=hd2 h o;have x:=qb.one;have y:=@run_makeMap prog;obtain⟨z,B,_⟩:=h;have q:=hd1 B;have r:=hd1 B.lt;have j:=B.cell 4 _ rfl;cases ho:s.opn
 ·rw[ho]at j;have C:=qb.cell (B.cell 0 _ rfl);have l1:=qb.cell (B.cell 1 _ rfl);have D:=qb.cell (B.cell 2 _ rfl);have E:=qb.cell (B.cell 3 _ rfl);have k:=hd1 ho;cases hc:qa8 S.a0 S.a1 S.a2 S.a3 s.p0 s.p1 s.p2 s.p3
  ·have f:=hd1 hc
   have c:Hid (qhl S s=10):=by show _=_;unfold qhl;rw[k.out,f.out];rfl
   go_enter func145,ntmps145
   go_wp2_with fail
   refine wrl ?_
   repeat (go_big_quiet_step (first|rfl|(go_at_call 143;with_reducible exact qg (qff _ (d.out.2.later (qb.below _))))|(go_at_call 205;with_reducible exact qg (qh3 f.out _))))
   refine wpQuiet_nil ?_;rintro w2 ⟨⟨_,g⟩,rfl⟩
   go_wp2_with fail
   go_ret;refine⟨by rw[c.out];rfl,?_⟩;rw[show qhd S s=s by unfold qhd;rw[if_neg (by rw[c.out];decide)]];exact qc8.same d.out.1 g
  have f:=hd1 hc
  have c:Hid (qhl S s=0):=by show _=_;unfold qhl;rw[k.out,f.out];rfl
  go_enter func145,ntmps145
  go_wp2_with fail
  refine wrl ?_
  repeat (go_big_quiet_step (first|rfl|(go_at_call 143;with_reducible exact qg (qff _ (d.out.2.later (qb.below _))))|(go_at_call 205;with_reducible exact qg (qh3 f.out _))))
  refine wpQuiet_nil ?_;rintro w2 ⟨⟨_,g⟩,rfl⟩;have t:=qff _ (d.out.2.later g)
  go_wp2_with fail
  refine t.mono ?_;rintro e u ⟨rfl,l⟩;have m:=boxed (qa g l) (.map #[] 0);have a:=q.out.later m;have F:=a.cell 4 _ rfl;have H:=a.cell 5 _ rfl;have I:=a.cell 6 _ rfl;have J:=a.cell 7 _ rfl;have K:=a.cell 8 _ rfl;have L:=a.cell 9 _ rfl;have M:=a.free 4 (by simp[yj]);have N:=a.free 5 (by simp[yj]);have O:=a.free 6 (by simp[yj]);have P:=a.free 7 (by simp[yj]);have Q:=a.free 8 (by simp[yj]);have R:=a.free 9 (by simp[yj]);have v:=(qa g l).size
  go_wp2_with fail
  go_ret;refine⟨by rw[c.out];rfl,?_⟩;rw[show qhd S s={s with opn:=true,s0:=S.a0,s1:=S.a1,s2:=S.a2,s3:=S.a3,ws:=[]} by unfold qhd;rw[if_pos c.out]];exact q37 p m a (qes.made u) v r.out S.a0 S.a1 S.a2 S.a3
 rw[ho]at j
 have c:Hid (qhl S s=6):=by show _=_;unfold qhl;rw[ho];rfl
 go_enter func145,ntmps145
 go_wp2_with fail
 go_ret;refine⟨by rw[c.out];rfl,?_⟩;rw[show qhd S s=s by unfold qhd;rw[if_neg (by rw[c.out];decide)]];exact qc8.same d.out.1 (jcc _ _)
end
section
open Go.RowKit
theorem qtk {b:Nat} {G:Nat->Prop} {S:qe} (now i j o q:Int) {a:Option Addr} {cap:Nat} {ws:List Wr} (w:World) (h:PS w b G S) (hI:j3 S) (hW:qr w a cap ws) (hX:∀k off,ws≠[]->a=some (AD k off)->¬G k):
 Ca 206 #[PP b,U now,.agg #[U i,U j,U o,U q],.slice a ws.length cap] w (qsw w b G S now i j o q ws):=by
 have t:=(qo.new w 77 i j o q).boxed (.cells ZA 102);have c:qd ((w.alloc (.cells #[U i,U j,U o,U q] 77)).alloc (.cells ZA 102)) (w.heap.size+1) txZ:=qd.new (w:=w.alloc (.cells #[U i,U j,U o,U q] 77)) (T:=102) (n:=w.heap.size+1) ZL (by simp);have d:=boxed (boxed (jcc _ w) (.cells #[U i,U j,U o,U q] 77)) (.cells ZA 102);have WI:=hW.later d;have X:=hd1 h;have HW:=hd1 hW;have HX:=hd1 hX;have HI:=hd1 hI
 have Y:w.heap.size<=w.heap.size+1:=by omega
 have O:=hI.id0;have P:=hI.id3
 have Z:Hid (∀(w9:World) (ev:Int),qfl S now i j o q ws=ev->ev≠0->Bw w w9->Hid (qsw w b G S now i j o q ws (.returned (.tuple #[txV tx0,jc ev])) w9)):=λw9 ev h1 h2 h3=>by
  refine⟨tx0,G,by rw[h1],?_,⟨⟨jcd _,by decide,.inl rfl⟩,?_,λk Q=>.inl Q,qc.ofBelow h3,λk Q=>absurd rfl Q.1⟩⟩
  ·unfold qha;rw[if_neg (by rw[h1];exact h2)];rfl
  unfold qf3;rw[if_neg (by rw[h1];exact h2)];exact X.out.later h3
 go_enter Tryz.func206,Tryz.ntmps206
 go_wp2_with fail
 refine(qog WI).mono ?_;rintro e w1 ⟨rfl,hb1⟩;replace t:=t.later hb1;replace c:=c.later hb1;replace d:=qa d hb1;cases hok:qad ws
 ·have E:Hid (qfl S now i j o q ws=1):=by show ji _ _ _ _ _ _ _ _=1;unfold ji;rw[if_pos hok]
  have r0:=c.cell 0 _ rfl;have p0:=c.free 0 (by simp[txZ]);have r1:=c.cell 1 _ rfl;have p1:=c.free 1 (by simp[txZ]);have r2:=c.cell 2 _ rfl;have p2:=c.free 2 (by simp[txZ]);have r3:=c.cell 3 _ rfl;have p3:=c.free 3 (by simp[txZ]);have r4:=c.cell 4 _ rfl;have p4:=c.free 4 (by simp[txZ]);have r5:=c.cell 5 _ rfl;have p5:=c.free 5 (by simp[txZ]);have r6:=c.cell 6 _ rfl;have p6:=c.free 6 (by simp[txZ]);have r7:=c.cell 7 _ rfl;have p7:=c.free 7 (by simp[txZ]);have r8:=c.cell 8 _ rfl;have p8:=c.free 8 (by simp[txZ]);have z:=yz c rfl 0 0 0 0 0 0 0 0 (.slice none 0 0);have I:=qd9 d Y 0 0 0 0 0 0 0 0 (.slice none 0 0);have y:=Z.out _ 1 E.out (by decide) I
  go_wp2_with fail
  exact bodyPost_ret (qba (m:=tx0) (ev:=jc 1) z rfl rfl) rfl y.out
 have HOK:=hd1 hok;obtain⟨lv,bm,F,log,waits,PM,hl,hw,hG⟩:=X.out.later d;have J:=hd3 hl hw hG
 have hll:log.length=S.log.length:=by rw[<-hl];simp
 have M1:=hd1 PM;have c0:=qb.cell t.c0;have c1:=qb.cell t.c1;have c2:=qb.cell t.c2;have c3:=qb.cell t.c3;have k1:=qb.cell (M1.out.box.cell 1 _ rfl);have k2:=qb.cell (M1.out.box.cell 2 _ rfl);have k3:=qb.cell (M1.out.box.cell 3 _ rfl);have k4:=qb.cell (M1.out.box.cell 4 _ rfl);cases hv:jb i j o q
 ·have L:=hd1 hv
  have E:Hid (qfl S now i j o q ws=10):=by show ji _ _ _ _ _ _ _ _=10;unfold ji;rw[if_neg (by rw[HOK.out];decide),if_pos hv]
  go_wp2_with fail
  refine wrl ?_
  repeat (go_big_quiet_step (first|rfl|(go_at_call 203;with_reducible exact qg (qh7 L.out _))))
  refine wpQuiet_nil ?_;rintro w2 ⟨⟨_,H⟩,rfl⟩;replace c:=c.later H;replace d:=qa d H;have r0:=c.cell 0 _ rfl;have p0:=c.free 0 (by simp[txZ]);have r1:=c.cell 1 _ rfl;have p1:=c.free 1 (by simp[txZ]);have r2:=c.cell 2 _ rfl;have p2:=c.free 2 (by simp[txZ]);have r3:=c.cell 3 _ rfl;have p3:=c.free 3 (by simp[txZ]);have r4:=c.cell 4 _ rfl;have p4:=c.free 4 (by simp[txZ]);have r5:=c.cell 5 _ rfl;have p5:=c.free 5 (by simp[txZ]);have r6:=c.cell 6 _ rfl;have p6:=c.free 6 (by simp[txZ]);have r7:=c.cell 7 _ rfl;have p7:=c.free 7 (by simp[txZ]);have r8:=c.cell 8 _ rfl;have p8:=c.free 8 (by simp[txZ]);have z:=yz c rfl 0 0 0 0 0 0 0 0 (.slice none 0 0);have I:=qd9 d Y 0 0 0 0 0 0 0 0 (.slice none 0 0);have y:=Z.out _ 10 E.out (by decide) I
  go_wp2_with fail
  exact bodyPost_ret (qba (m:=tx0) (ev:=jc 10) z rfl rfl) rfl y.out
 have L:=hd1 hv;cases hc:qa8 S.a0 S.a1 S.a2 S.a3 i j o q
 ·have HC:=hd1 hc
  have E:Hid (qfl S now i j o q ws=10):=by show ji _ _ _ _ _ _ _ _=10;unfold ji;rw[if_neg (by rw[HOK.out];decide),if_neg (by rw[L.out];decide),if_pos hc]
  go_wp2_with fail
  refine wrl ?_
  repeat (go_big_quiet_step (first|rfl|(go_at_call 203;with_reducible exact qg (qh7 L.out _))|(go_at_call 205;with_reducible exact qg (qh3 HC.out _))))
  refine wpQuiet_nil ?_;rintro w2 ⟨⟨_,H⟩,rfl⟩;replace c:=c.later H;replace d:=qa d H;have r0:=c.cell 0 _ rfl;have p0:=c.free 0 (by simp[txZ]);have r1:=c.cell 1 _ rfl;have p1:=c.free 1 (by simp[txZ]);have r2:=c.cell 2 _ rfl;have p2:=c.free 2 (by simp[txZ]);have r3:=c.cell 3 _ rfl;have p3:=c.free 3 (by simp[txZ]);have r4:=c.cell 4 _ rfl;have p4:=c.free 4 (by simp[txZ]);have r5:=c.cell 5 _ rfl;have p5:=c.free 5 (by simp[txZ]);have r6:=c.cell 6 _ rfl;have p6:=c.free 6 (by simp[txZ]);have r7:=c.cell 7 _ rfl;have p7:=c.free 7 (by simp[txZ]);have r8:=c.cell 8 _ rfl;have p8:=c.free 8 (by simp[txZ]);have z:=yz c rfl 0 0 0 0 0 0 0 0 (.slice none 0 0);have I:=qd9 d Y 0 0 0 0 0 0 0 0 (.slice none 0 0);have y:=Z.out _ 10 E.out (by decide) I
  go_wp2_with fail
  exact bodyPost_ret (qba (m:=tx0) (ev:=jc 10) z rfl rfl) rfl y.out
 have HC:=hd1 hc
 go_wp2_with fail
 refine wrl ?_
 repeat (go_big_quiet_step (first|rfl|(go_at_call 203;with_reducible exact qg (qh7 L.out _))|(go_at_call 205;with_reducible exact qg (qh3 HC.out _))))
 refine wpQuiet_nil ?_;rintro w2 ⟨⟨_,H⟩,rfl⟩;replace c:=c.later H;replace t:=t.later H;replace d:=qa d H;have M2:=hd1 (M1.out.later H);by_cases K:200<=log.length
 ·have E:Hid (qfl S now i j o q ws=12):=by show ji _ _ _ _ _ _ _ _=12;unfold ji;rw[if_neg (by rw[HOK.out];decide),if_neg (by rw[L.out];decide),if_neg (by rw[HC.out];decide),if_pos (by omega)]
  have IF:=qe0 (decide_eq_true K) w2 M2.out
  go_wp2_with fail
  refine IF.mono ?_;rintro e w3 ⟨rfl,M⟩;replace c:=c.later M;replace d:=qa d M;have r0:=c.cell 0 _ rfl;have p0:=c.free 0 (by simp[txZ]);have r1:=c.cell 1 _ rfl;have p1:=c.free 1 (by simp[txZ]);have r2:=c.cell 2 _ rfl;have p2:=c.free 2 (by simp[txZ]);have r3:=c.cell 3 _ rfl;have p3:=c.free 3 (by simp[txZ]);have r4:=c.cell 4 _ rfl;have p4:=c.free 4 (by simp[txZ]);have r5:=c.cell 5 _ rfl;have p5:=c.free 5 (by simp[txZ]);have r6:=c.cell 6 _ rfl;have p6:=c.free 6 (by simp[txZ]);have r7:=c.cell 7 _ rfl;have p7:=c.free 7 (by simp[txZ]);have r8:=c.cell 8 _ rfl;have p8:=c.free 8 (by simp[txZ]);have z:=yz c rfl 0 0 0 0 0 0 0 0 (.slice none 0 0);have I:=qd9 d Y 0 0 0 0 0 0 0 0 (.slice none 0 0);have y:=Z.out _ 12 E.out (by decide) I
  go_wp2_with fail
  exact bodyPost_ret (qba (m:=tx0) (ev:=jc 12) z rfl rfl) rfl y.out
 have IF:=qe0 (decide_eq_false K) w2 M2.out;obtain⟨⟨r,s,R⟩,hnx⟩:∃x,qcp S.lw S.lc now=x:=⟨_,rfl⟩
 have HN:Hid (qfl S now i j o q ws=R):=by show ji _ _ _ _ _ _ _ _=R;unfold ji;rw[if_neg (by rw[HOK.out];decide),if_neg (by rw[L.out];decide),if_neg (by rw[HC.out];decide),if_neg (by omega),hnx]
 have HNX:=hd1 hnx
 have HF:Hid (S.log.length<200):=by show _<_;omega
 go_wp2_with fail
 refine IF.mono ?_;rintro e w3 ⟨rfl,M⟩;replace c:=c.later M;replace t:=t.later M;replace d:=qa d M;have M3:=hd1 (M2.out.later M);have k5:=M3.out.box.cell 5 _ rfl;have k6:=M3.out.box.cell 6 _ rfl
 go_wp2_with fail
 refine(q62 HNX.out _).mono ?_;rintro e w4 ⟨rfl,hb4⟩;have HSZ:=hd1 ((c.later hb4).lt);replace c:=(c.later hb4).boxed (.cells #[U r,U s] 79);replace t:=(t.later hb4).boxed (.cells #[U r,U s] 79);replace d:=boxed (qa d hb4) (.cells #[U r,U s] 79);have RS:=qd.new (w:=w4) (T:=79) [U r,U s] rfl;have M4:Hid (zf (w4.alloc (.cells #[U r,U s] 79)) b lv bm F S log waits):=M3.out.later (boxed hb4 _);by_cases hne:R=0
 rotate_left
 ·have ee:jc R=.iface 26 (U R):=by unfold jc;rw[if_neg hne]
  rw[ee];have HEE:=hd1 ee;have r0:=c.cell 0 _ rfl;have p0:=c.free 0 (by simp[txZ]);have r1:=c.cell 1 _ rfl;have p1:=c.free 1 (by simp[txZ]);have r2:=c.cell 2 _ rfl;have p2:=c.free 2 (by simp[txZ]);have r3:=c.cell 3 _ rfl;have p3:=c.free 3 (by simp[txZ]);have r4:=c.cell 4 _ rfl;have p4:=c.free 4 (by simp[txZ]);have r5:=c.cell 5 _ rfl;have p5:=c.free 5 (by simp[txZ]);have r6:=c.cell 6 _ rfl;have p6:=c.free 6 (by simp[txZ]);have r7:=c.cell 7 _ rfl;have p7:=c.free 7 (by simp[txZ]);have r8:=c.cell 8 _ rfl;have p8:=c.free 8 (by simp[txZ]);have z:=yz c rfl 0 0 0 0 0 0 0 0 (.slice none 0 0);have I:=qd9 d Y 0 0 0 0 0 0 0 0 (.slice none 0 0);have y:=Z.out _ R HN.out hne I;rw[HEE.out]at y
  go_wp2_with fail
  exact bodyPost_ret (qba (m:=tx0) z rfl rfl) rfl y.out
 subst hne;rw[show jc 0=.nilIface from rfl];obtain⟨D,hD⟩:∃D,qp S.id S.a0 S.a1 S.a2 S.a3=D:=⟨_,rfl⟩;have hd:=HI.out.dep S.id;rw[hD]at hd;have hwr:=qd1 hd
 have HCT0:zv S now i j o q ws=⟨S.id,D+1,r,s,qch S.id D i,qcl S.id D j,qck S.id D o,qcj S.id D q,ws⟩:=by unfold zv;rw[hD,HNX.out]
 obtain⟨CI,w15,HF2,ho⟩:=qpk HI.out HN.out;have HL5:=hd2 w15 HF2
 go_wp2_with fail
 obtain⟨W4,hW4⟩:∃W4,w4.alloc (.cells #[U r,U s] 79)=W4:=⟨_,rfl⟩;rw[hW4]at c t d RS M4 ⊢;have k0:=M4.out.box.cell 0 _ rfl;have ks:=M4.out.box.cell _ _ (qmz O P);rw[hD]at ks;have v1:=qk9 t O P;have v2:=qwc t O P
 have hi4:S.id<4:=by omega
 have HD:=hd1 hD;have HGS:=hd1 X.out.lt
 have nb:b≠w.heap.size:=by have:=HGS.out b ((J.out.2.2 b).2 (.inl (.inl rfl)));omega
 go_region
 have N:=(q0b t O P D).drew;have RT5:=(c.far (AD w.heap.size S.id.toNat) (U D) (by simp)).drew;have RS5:=(RS.far (AD w.heap.size S.id.toNat) (U D) (by have:=HSZ.out;simp only;omega)).drew;have hb5:=(d.setCell (p:=AD w.heap.size S.id.toNat) (jcd _) (U D)).drew;have P5:=hd1 (X.out.later hb5);obtain⟨f,hW5⟩:∃f,(W4.setCell (AD w.heap.size S.id.toNat) (U D)).drew=f:=⟨_,rfl⟩;rw[hW5]at N RT5 RS5 hb5 P5 ⊢;obtain⟨B,he0⟩:∃x,qch S.id D i=x:=⟨_,rfl⟩;obtain⟨u,he1⟩:∃x,qcl S.id D j=x:=⟨_,rfl⟩;obtain⟨v,he2⟩:∃x,qck S.id D o=x:=⟨_,rfl⟩;obtain⟨C,he3⟩:∃x,qcj S.id D q=x:=⟨_,rfl⟩;rw[he0,he1,he2,he3]at N HCT0;have HCT:=hd1 HCT0
 have M5:Hid (zf f b lv bm F S log waits):=by
  have hbb:Bw W4 W4:=jcc _ _
  have:=M4.out.kept (w':=f) (λk Q=>by
   rw[<-hW5];have hkk:=HGS.out k ((J.out.2.2 k).2 Q)
   exact jce _ _ _ _ (by simp only;omega)) (by rw[<-hW5];simp[World.setCell,World.drew])
  exact this
 have k0:=M5.out.box.cell 0 _ rfl;have ks:=M5.out.box.cell _ _ (qmz O P);rw[HD.out]at ks;have y0:=RS5.cell 0 _ rfl;have y1:=RS5.cell 1 _ rfl;have v0:=N.c0;have v1:=N.c1;have v2:=N.c2;have v3:=N.c3;have l1:=M5.out.box.lt;have l2:=RS5.lt;have l3:=N.lt;have Y0:=λ(w':World) (h:Bw f w')=>cell_later h k0;have Y1:=λ(w':World) (h:Bw f w')=>cell_later h ks;have Y2:=λ(w':World) (h:Bw f w')=>cell_later h y0;have Y3:=λ(w':World) (h:Bw f w')=>cell_later h y1;have Y4:=λ(w':World) (h:Bw f w')=>cell_later h v0;have Y5:=λ(w':World) (h:Bw f w')=>cell_later h v1;have Y6:=λ(w':World) (h:Bw f w')=>cell_later h v2;have Y7:=λ(w':World) (h:Bw f w')=>cell_later h v3;have hb50:=(jcc f.heap.size f).drew
 go_wp2_with fail
 go_region_held3 (λw'=>Bw f w') (repeat (first|(with_reducible assumption)|(with_reducible exact jcc _ _)|(with_reducible refine boxed ?_ _)|(with_reducible refine jc6 ?_)|(refine jdz ?_ (jcd _) _))) (fail)
 have hw2:IntKind.i64.wrap (D+1)=D+1:=by rw[<-qd1 hd];unfold wrap64 IntKind.wrap;simp[IntKind.signed,IntKind.bits];omega
 all_goals
  rw[hw2];have hx6:=boxed (jcc _ f) (.cells (List.toArray (T9 S.id (D+1) r s B u v C a ws.length cap)) 102);have RX6:=(qd.new (w:=f) (T:=102) (T9 S.id (D+1) r s B u v C a ws.length cap) rfl).drew;change qd (f.alloc (.cells (List.toArray (T9 S.id (D+1) r s B u v C a ws.length cap)) 102)).drew f.heap.size (T9 S.id (D+1) r s B u v C a ws.length cap)at RX6;have RT6:=(RT5.later hx6).drew;have hb6:=(qa hb5 hx6).drew;have M6:=hd1 ((M5.out.later hx6).later (jcc _ _).drew);have HS6:=hd2 RT5.lt RX6.lt;obtain⟨W6,hW6⟩:∃W6,(f.alloc (.cells (List.toArray (T9 S.id (D+1) r s B u v C a ws.length cap)) 102)).drew=W6:=⟨_,rfl⟩;rw[hW6]at RX6 RT6 hb6 M6 HS6 ⊢;obtain⟨x0,x1,x2,x3,x4,x5,x6,x7,x8⟩:=RX6.c9;have CP:=qgq ⟨⟨S.id,D+1,r,s,B,u,v,C,ws⟩,a,cap⟩ W6 (HW.out.later hb6) HL5.out.1 (by have:=HL5.out;simp only;omega);simp only[txV]at CP
  have HLL:Hid (log.length=S.log.length):=by show _=_;rw[<-J.out.1];simp
  go_wp2_with fail
  refine CP.mono ?_;rintro e w7 ⟨m1,V,rfl,W71,hk1,hb7⟩;have HM1:=hd3 V W71 hk1
  have AP:=qr3 m1 w7 (M6.out.later hb7) ⟨W71,λk e K=>by
   have q1:=hk1 k e;have q2:=M6.out.lt k K
   omega⟩ (by rw[V];exact O) (by rw[V];exact P) (by rw[V];have q1:=HI.out.len;have q2:=HF.out;have q3:=HL5.out;show S.l.length+ws.length<=1000;omega) (by have q1:=HLL.out;have q2:=HF.out;omega)
  have RX7:=RX6.later hb7;have RT7:=RT6.later hb7;have HB7:=hd2 (qa hb6 hb7) hb7.size;obtain⟨t1,wa1,wc1⟩:=m1;simp only at V;subst V
  go_wp2_with fail
  refine AP.mono ?_;rintro e w8 ⟨rfl,lv',F',PM8,nf8,W⟩
  have nfx:∀k,w.heap.size<=k->¬jn b lv bm F k:=λk Q K=>by
   have:=HGS.out k ((J.out.2.2 k).2 (.inl K));omega
  have RX8:=RX7.kept (W.block _ RX7.lt (nfx _ (by have:=HS6.out;omega))) W.size;have RT8:=RT7.kept (W.block _ RT7.lt (nfx _ (by omega))) W.size
  have W8:qr w8 a cap ws:=qr.kept (m:=⟨⟨S.id,D+1,r,s,B,u,v,C,ws⟩,a,cap⟩) (w:=w7) (HW.out.later HB7.out.1) (λk e=>W.block k (qr.blk_lt (m:=⟨⟨S.id,D+1,r,s,B,u,v,C,ws⟩,a,cap⟩) (HW.out.later HB7.out.1) k e) (λK=>by
   obtain⟨u,off,v⟩:=e
   exact HX.out k off u v ((J.out.2.2 k).2 (.inl K))))
  have HQ8:=hd3 PM8 nf8 W;have CP2:=qgq ⟨⟨S.id,D+1,r,s,B,u,v,C,ws⟩,a,cap⟩ w8 W8 HL5.out.1 (by have:=HL5.out;simp only;omega);simp only[txV]at CP2;obtain⟨x0,x1,x2,x3,x4,x5,x6,x7,x8⟩:=RX8.c9
  go_wp2_with fail
  refine CP2.mono ?_;rintro e w9 ⟨m2,hm2,rfl,W92,hk2,hb9⟩;obtain⟨t2,wa2,wc2⟩:=m2;simp only at hm2 W92;subst hm2;have g:=RT8.later hb9;have y:=qzm (wa2:=wa2) (wc2:=wc2) X.out HB7.out.1 (by have:=HS6.out;have:=HB7.out.2;omega) HQ8.out.1 HQ8.out.2.1 HQ8.out.2.2 (λk e=>by have:=HM1.out.2.2 k e;have:=HS6.out;omega) J.out.1 J.out.2.1 J.out.2.2 hb9 W92 (λk e=>⟨by have:=hk2 k e;have:=HS6.out;have:=HB7.out.2;have:=HQ8.out.2.2.size;omega,hk2 k e⟩) (by rw[HCT.out]) HN.out;simp only[txV];have r0:=g.cell 0 _ rfl;have p0:=g.free 0 (by simp[txZ]);have r1:=g.cell 1 _ rfl;have p1:=g.free 1 (by simp[txZ]);have r2:=g.cell 2 _ rfl;have p2:=g.free 2 (by simp[txZ]);have r3:=g.cell 3 _ rfl;have p3:=g.free 3 (by simp[txZ]);have r4:=g.cell 4 _ rfl;have p4:=g.free 4 (by simp[txZ]);have r5:=g.cell 5 _ rfl;have p5:=g.free 5 (by simp[txZ]);have r6:=g.cell 6 _ rfl;have p6:=g.free 6 (by simp[txZ]);have r7:=g.cell 7 _ rfl;have p7:=g.free 7 (by simp[txZ]);have r8:=g.cell 8 _ rfl;have p8:=g.free 8 (by simp[txZ]);have z:=yz g rfl S.id (D+1) r s B u v C (.slice wa2 ws.length wc2)
  go_wp2_with fail
  exact bodyPost_ret (qba (m:=⟨⟨S.id,D+1,r,s,B,u,v,C,ws⟩,wa2,wc2⟩) z rfl rfl) rfl y.out
end
section
open Go.RowKit
variable {b:Nat}
theorem qku {tmps:Array Value} {w:World} {v:Ver} {ev:Value} (h:qd w b (qh v)) (a:tmps[6]?=some (PP b)) (c:tmps[7]?=some ev):
 (results Tryz.f216 tmps).run Tryz.prog w=.ok (.tuple #[.agg (qh v).toArray,ev]) w:=by
 obtain⟨d,e,f,g,i,j⟩:=h.c6;simp[results,Tryz.results216,go_sem,a,c,d,e,f,g,i,j,qh]
theorem q3x {lv:Value} {bm:Nat} {F:Nat->Prop} {S:qe} {log waits:List TxM} (key a0 a1 a2 a3:Int) (w:World) (h:zf w b lv bm F S log waits) (q:j3 S):
 Ca 216 #[PP b,U key,.agg #[U a0,U a1,U a2,U a3]] w λe w'=>
  e=.returned (.tuple #[.agg (qh (qbq S key a0 a1 a2 a3).1).toArray,jc (qbq S key a0 a1 a2 a3).2])/\Bw w w':=by
 have d:=(qo.new w 77 a0 a1 a2 a3).boxed (.cells YA 130);have a:qd ((w.alloc (.cells #[U a0,U a1,U a2,U a3] 77)).alloc (.cells YA 130)) (w.heap.size+1) (qh jq):=qd.new (w:=w.alloc (.cells #[U a0,U a1,U a2,U a3] 77)) (T:=130) (n:=w.heap.size+1) YL (by simp);have f:=boxed (boxed (jcc _ w) (.cells #[U a0,U a1,U a2,U a3] 77)) (.cells YA 130);have g:Hid (zf _ b lv bm F S log waits):=h.later f;have P:=hd1 h;have Q:=qb.cell (g.out.box.cell 1 _ rfl);have R:=qb.cell (g.out.box.cell 2 _ rfl);have V:=qb.cell (g.out.box.cell 3 _ rfl);have W:=qb.cell (g.out.box.cell 4 _ rfl);have X:=qb.cell d.c0;have Y:=qb.cell d.c1;have Z:=qb.cell d.c2;have c3:=qb.cell d.c3;go_enter Tryz.func216,Tryz.ntmps216
 go_wp2_with fail
 refine wrl ?_
 repeat (go_big_quiet_step (first|rfl|(go_at_call 205;exact qg (qox _ _ _ _ _ _ _ _ _))))
 refine wpQuiet_nil ?_;rintro s ⟨⟨_,r⟩,rfl⟩;replace a:=a.later r;replace d:=qo.later r d;replace f:=qa f r;have C:=hd1 (g.out.later r);cases hc:qa8 S.a0 S.a1 S.a2 S.a3 a0 a1 a2 a3
 ·have t:Hid (qbq S key a0 a1 a2 a3=(jq,10)):=by show qbq S key a0 a1 a2 a3=(jq,10);unfold qbq;rw[hc];rfl
  have D:=a.cell 0 _ rfl;have p0:=a.free 0 (by simp[qh]);have E:=a.cell 1 _ rfl;have p1:=a.free 1 (by simp[qh]);have G:=a.cell 2 _ rfl;have p2:=a.free 2 (by simp[qh]);have H:=a.cell 3 _ rfl;have p3:=a.free 3 (by simp[qh]);have I:=a.cell 4 _ rfl;have J:=a.free 4 (by simp[qh]);have K:=a.cell 5 _ rfl;have L:=a.free 5 (by simp[qh]);have u:=qn6 a 0 0 0 0 ⟨#[]⟩ false;have y:=qn3 f (show w.heap.size<=w.heap.size+1 by omega) 0 0 0 0 ⟨#[]⟩ false
  go_wp2_with fail
  refine bodyPost_ret (qku (v:=jq) (ev:=jc 10) u rfl rfl) rfl ⟨?_,y⟩;rw[t.out]
 obtain⟨⟨⟨i,j,k,m,o,p⟩,ev⟩,z⟩:∃x,zz key a0 a1 a2 a3 S.l=x:=⟨_,rfl⟩
 have t:Hid (qbq S key a0 a1 a2 a3=(⟨i,j,k,m,o,p⟩,ev)):=by show qbq S key a0 a1 a2 a3=_;unfold qbq;rw[hc,<-z];rfl
 have M:Hid (Ca 259 #[.pointer (some (AD b 25)),U key,.agg #[U a0,U a1,U a2,U a3]] s.drew λe w'=>e=.returned (.tuple #[.agg #[U i,U j,U k,U m,.string o,.bool p],jc ev])/\qo w' w.heap.size a0 a1 a2 a3/\qd w' (w.heap.size+1) (qh jq)/\Bw w w'):=by
  refine(qq1 key a0 a1 a2 a3 s.drew (C.out.later (jcc _ s).drew).st (by have:=q.len;have:=q.log;omega) q.apart q.ok).mono ?_;rintro e w' ⟨rfl,B⟩;refine⟨by rw[z];rfl,qo.later B d.drew,a.drew.later B,qa f.drew B⟩
 have HRV:=hd1 z;have T0:=λ(w':World) (h:qo w' w.heap.size a0 a1 a2 a3)=>h.c0;have T1:=λ(w':World) (h:qo w' w.heap.size a0 a1 a2 a3)=>h.c1;have T2:=λ(w':World) (h:qo w' w.heap.size a0 a1 a2 a3)=>h.c2;have T3:=λ(w':World) (h:qo w' w.heap.size a0 a1 a2 a3)=>h.c3;have RA0:=d.drew
 have N:w.heap.size+1≠w.heap.size:=by omega
 go_wp2_with fail
 go_region_held3 (λw'=>qo w' w.heap.size a0 a1 a2 a3) (first|(with_reducible assumption)|(with_reducible exact qt0 (by with_reducible assumption) N _ _ _ _ _ _))
  (first|(go_at_call 259;with_reducible refine M.out.mono ?_;rintro e w5 ⟨rfl,RA5,c,O⟩;have D:=c.cell 0 _ rfl;have p0:=c.free 0 (by simp[qh]);have E:=c.cell 1 _ rfl;have p1:=c.free 1 (by simp[qh]);have G:=c.cell 2 _ rfl;have p2:=c.free 2 (by simp[qh]);have H:=c.cell 3 _ rfl;have p3:=c.free 3 (by simp[qh]);have I:=c.cell 4 _ rfl;have J:=c.free 4 (by simp[qh]);have K:=c.cell 5 _ rfl;have L:=c.free 5 (by simp[qh])))
 all_goals
  have u:=qn6 c i j k m o p;have y:=qn3 O (show w.heap.size<=w.heap.size+1 by omega) i j k m o p
  go_wp2_with fail
  refine bodyPost_ret (qku (v:=⟨i,j,k,m,o,p⟩) (ev:=jc ev) u rfl rfl) rfl ⟨?_,y⟩;rw[t.out]
end
section
open Go.RowKit
theorem qyr {b:Nat} {G:Nat->Prop} {S:qe} (key a0 a1 a2 a3:Int) (w:World) (h:PS w b G S) (a:j3 S):
 Ca 216 #[PP b,U key,.agg #[U a0,U a1,U a2,U a3]] w λe w'=>
  e=.returned (.tuple #[.agg (qh (qbq S key a0 a1 a2 a3).1).toArray,jc (qbq S key a0 a1 a2 a3).2])/\Bw w w':=by
 obtain⟨lv,bm,F,log,waits,h,_,_,_⟩:=h;exact q3x key a0 a1 a2 a3 w h a
end
section
open Tryz Go.Value Go.IntKind Go.RowKit Go.Maps
variable {k:Int}
theorem q0f (h:(Lit.int .i64 k).wf=true):keyOf prog 3 (int i64 k)=some (int i64 k):=by
 unfold keyOf;rw[underlying3];simp[mapKey,h,underlying3]
variable {bm:Nat} {v:Bool}
theorem qcy {f:Array Oper} {rest:List Oper} {o:Oper} {a:Act} {Q:Exit->Act->World->Prop} (w:World) (g:o.guard=none) (c d:Operand) (h:o.op=Op.lookup 221 c d true) {n:Nat} {D:DataW Value} {u:Value}
 (i:a.eval c=.map (some bm)) (j:w.ownsMap prog 3 qcd bm n D) (m:a.eval d=int i64 k) (p:keyOf prog 3 (int i64 k)=some (int i64 k)) (q:Maps.has D (int i64 k)=v) (r:D.atKey (int i64 k) (.held qqt)=.held u)
 (t:wpList prog f Q rest (a.put o.dst (.tuple #[u,.bool v])) w):wpList prog f Q (o::rest) a w:=by
 refine wpList_lookup_own_ok w g c d 221 h 3 100 qtl underlying221 qcd (q82 w) (.held qqt) [] rfl bm n D i j (int i64 k) (int i64 k) m p ?_;intro y ps x;have e:=qmj x;rw[r]at e;injection e with e;rw[<-e,q];exact t
variable {w:World} {l:List Wr}
theorem qes.look (h:qes w bm l) (k:Int):∃D,w.ownsMap prog 3 qcd bm (jh l).length D/\Maps.has D (int i64 k)=(qay l k).isSome/\D.atKey (int i64 k) (.held qqt)=.held (wrV (qav l k)):=by
 obtain⟨_,D,c,a⟩:=h;refine⟨D,c,?_⟩;cases ho:qay l k with
 |none=>
  have e:qav l k=⟨0,⟨#[]⟩,false⟩:=by unfold qav;rw[ho];rfl
  rw[e];exact⟨(a.no k ho).1,(a.no k ho).2 _⟩
 |some x=>
  have e:qav l k=x:=by unfold qav;rw[ho];rfl
  rw[e];exact⟨(a.has k x ho).1,(a.has k x ho).2 _⟩
theorem qes.len (h:qes w bm l) (a:TypeId):(Builtin.len_ #[221] a #[.map (some bm)]).run prog w=.ok (int i64 (jh l).length) w:=by
 obtain⟨_,D,c,d⟩:=h;have:=c.len underlying221 a;rw[d.size]at this;exact this
theorem qes.later {w':World} (h:qes w bm l) (a:Bw w w'):qes w' bm l:=h.kept (a.block bm h.lt)
def q89 (x:Wr):Int:=if x.gone=true then 8 else 0
def q9c (x:Wr):ByteArray:=if x.gone=true then ⟨#[]⟩else x.data
theorem qwg (x:Wr) (w:World):
 Ca 215 #[wrV x] w (Rn (.tuple #[.string (q9c x),jc (q89 x)]) w):=by
 obtain⟨c,d,a⟩:=x;show Ca 215 #[.agg #[int i64 c,.string d,.bool a]] w _;have e:=boxed (jcc _ w) (.cells #[int i64 c,.string d,.bool a] 100);cases a
 ·go_enter func215,ntmps215
  go_wp2_with fail
  go_ret2;exact⟨rfl,boxed (jcc _ w) _⟩
 go_enter func215,ntmps215
 go_wp2_with fail
 go_ret2;exact⟨rfl,boxed (jcc _ w) _⟩
variable {b:Nat} {s:qy}
theorem qxe {H:Nat} {G R:Nat->Prop} {S:qe} (key:Int) (T:(Lit.int .i64 key).wf=true) (w:World) (h:PSe w b G s) (V:PS w H R S) (W:j3 S):
 Ca 158 #[PP b,PP H,int i64 key] w (Rn (.tuple #[.string (vi S s key).1,jc (vi S s key).2]) w):=by
 have I:=hd1 (q0f T);have J:=hd2 V W;obtain⟨mv,B,X⟩:=h;have Y:=hd1 B;have K:=B.cell 4 _ rfl;rcases X with ⟨f,rfl,_,_⟩|⟨f,bm,rfl,_,Z,_⟩
 ·rw[f]at K
  have g:Hid (vi S s key=(⟨#[]⟩,6)):=by show _=_;unfold vi;rw[f];rfl
  rw[g.out];go_enter func158,ntmps158
  go_wp2_with fail
  go_ret2;exact⟨rfl,jcc _ _⟩
 rw[f]at K;have k9:=B.cell 9 _ rfl;obtain⟨D,L,j,m⟩:=Z.look key;cases hw:qay s.ws key with
 |none=>
  have p:qav s.ws key=⟨0,⟨#[]⟩,false⟩:=by unfold qav;rw[hw];rfl
  rw[hw]at j;rw[p]at m;have q:Hid (Maps.has D (int i64 key)=false):=j;have r:Hid (D.atKey (int i64 key) (.held qqt)=.held (.agg #[int i64 0,.string ⟨#[]⟩,.bool false])):=m;obtain⟨⟨⟨t,y,rs,z,n,C⟩,M⟩,N⟩:∃x,qbq S key s.s0 s.s1 s.s2 s.s3=x:=⟨_,rfl⟩
  have g:Hid (vi S s key=(n,M)):=by show _=_;unfold vi;rw[f,hw,N];rfl
  have i:=boxed (jcc _ w) (.cells #[int i64 0,.string ⟨#[]⟩,.bool false] 100);have O:=qyr key s.s0 s.s1 s.s2 s.s3 _ (J.out.1.later i) J.out.2;rw[N]at O;have o:=Y.out.later i;have y5:=o.cell 5 _ rfl;have y6:=o.cell 6 _ rfl;have y7:=o.cell 7 _ rfl;have y8:=o.cell 8 _ rfl;rw[g.out];go_enter func158,ntmps158
  go_wp2_with (at_lookup;refine qcy _ rfl _ _ rfl (u:=.agg #[int i64 0,.string ⟨#[]⟩,.bool false]) rfl L rfl I.out q.out r.out ?_)
  refine O.mono ?_;rintro e w3 ⟨rfl,E⟩;rw[show qh ((⟨t,y,rs,z,n,C⟩,M):Ver×Int).1=[int i64 t,int i64 y,int i64 rs,int i64 z,.string n,.bool C]from rfl];have hb4:=boxed (qa i E) (.cells #[int i64 t,int i64 y,int i64 rs,int i64 z,.string n,.bool C] 130)
  go_wp2_with fail
  go_ret2;exact⟨rfl,hb4⟩
 |some x=>
  obtain⟨c,d,a⟩:=x
  have p:qav s.ws key=⟨c,d,a⟩:=by unfold qav;rw[hw];rfl
  rw[hw]at j;rw[p]at m;have q:Hid (Maps.has D (int i64 key)=true):=j;have r:Hid (D.atKey (int i64 key) (.held qqt)=.held (.agg #[int i64 c,.string d,.bool a])):=m
  have g:Hid (vi S s key=(q9c ⟨c,d,a⟩,q89 ⟨c,d,a⟩)):=by show _=_;unfold vi q9c q89;rw[f,hw];cases a<;>rfl
  have F:=qwg ⟨c,d,a⟩ (w.alloc (.cells #[int i64 c,.string d,.bool a] 100));have i:=boxed (jcc _ w) (.cells #[int i64 c,.string d,.bool a] 100);obtain⟨P,hvd⟩:∃P,q9c ⟨c,d,a⟩=P:=⟨_,rfl⟩;obtain⟨Q,hve⟩:∃Q,q89 ⟨c,d,a⟩=Q:=⟨_,rfl⟩;rw[hvd,hve]at F g;rw[show wrV ⟨c,d,a⟩=.agg #[int i64 c,.string d,.bool a]from rfl]at F;rw[g.out];go_enter func158,ntmps158
  go_wp2_with (at_lookup;refine qcy _ rfl _ _ rfl (u:=.agg #[int i64 c,.string d,.bool a]) rfl L rfl I.out q.out r.out ?_)
  refine F.mono ?_;rintro e w3 ⟨rfl,E⟩
  go_wp2_with fail
  go_ret2;exact⟨rfl,qa i E⟩
theorem qu3 (key:Int) (t:(Lit.int .i64 key).wf=true) (w:World) (B:qd w b (yj s (.map (some bm)))) (o:qes w bm s.ws) (p:decide (qay s.ws key=none/\5<=(jh s.ws).length)=!v):
 Ca 213 #[PP b,int i64 key] w (Rn (.bool v) w):=by
 have q:=hd1 (q0f t);have z:=B.cell 9 _ rfl;obtain⟨D,r,c,d⟩:=o.look key;cases hw:qay s.ws key with
 |none=>
  have j:qav s.ws key=⟨0,⟨#[]⟩,false⟩:=by unfold qav;rw[hw];rfl
  rw[hw]at c;rw[j]at d;have m:Hid (Maps.has D (int i64 key)=false):=c;have n:Hid (D.atKey (int i64 key) (.held qqt)=.held (.agg #[int i64 0,.string ⟨#[]⟩,.bool false])):=d;have a:=boxed (jcc _ w) (.cells #[int i64 0,.string ⟨#[]⟩,.bool false] 100);have C:=(o.later a).len;have E:=(B.later a).cell 9 _ rfl
  have e:decide (((jh s.ws).length:Int)<5)=v:=by
   cases v
   ·have:=of_decide_eq_true p;exact decide_eq_false (by omega)
   have:=of_decide_eq_false p;refine decide_eq_true ?_;have F:¬5<=(jh s.ws).length:=λh=>this ⟨hw,h⟩;omega
  go_enter func213,ntmps213
  go_wp2_with (at_lookup;refine qcy _ rfl _ _ rfl (u:=.agg #[int i64 0,.string ⟨#[]⟩,.bool false]) rfl r rfl q.out m.out n.out ?_)
  go_ret;refine⟨?_,a⟩
  first|rfl|(simp[e])|(rw[e])
 |some x=>
  obtain⟨f,g,i⟩:=x
  have j:qav s.ws key=⟨f,g,i⟩:=by unfold qav;rw[hw];rfl
  rw[hw]at c;rw[j]at d;have m:Hid (Maps.has D (int i64 key)=true):=c;have n:Hid (D.atKey (int i64 key) (.held qqt)=.held (.agg #[int i64 f,.string g,.bool i])):=d;have a:=boxed (jcc _ w) (.cells #[int i64 f,.string g,.bool i] 100)
  have y:v=true:=by cases v<;>simp_all
  subst y;go_enter func213,ntmps213
  go_wp2_with (at_lookup;refine qcy _ rfl _ _ rfl (u:=.agg #[int i64 f,.string g,.bool i]) rfl r rfl q.out m.out n.out ?_)
  go_ret;exact⟨rfl,a⟩
theorem qya (w:World) (B:qd w b (yj s (.map (some bm)))) (L:qes w bm s.ws):
 Ca 207 #[PP b] w λe w'=>∃v,e=.returned v/\w'.ownsRow w.heap.size 100 3 v (jh s.ws).length (qcf (jh s.ws))/\Bw w w':=by
 have E:=hd2 B L;obtain⟨M,hi,N,O,P⟩:=info_parts qmn;go_enter func207,ntmps207
 go_wp2_with fail
 go_loopw [3,7] (λQ iv wr=>∃(k:Nat) (z:Int),k<=8/\z=k/\iv=int i64 z/\wr.ownsRow w.heap.size 100 3 Q (qak s.ws k).length (qcf (qak s.ws k))/\Bw w wr) (λ_ i _=>8-(intOf i).toNat)
 case atStart=>exact⟨0,0,by omega,rfl,rfl,jcx _ _ _ _,jcc _ _⟩
 obtain⟨k,z,hk,n,rfl,own,h⟩:=hrel;have o:=hd1 n;have hal:=qkg s.ws k;have k9:=(E.out.1.later h).cell 9 _ rfl;by_cases hlt:k<8
 ·have R:z<8:=by omega
  have h0:0<=z:=by omega
  have F:Hid (keyOf prog 3 (int i64 z)=some (int i64 z)):=q4f ⟨by omega,by omega⟩;obtain⟨D,G,f,g⟩:=(E.out.2.later h).look z;have H:Hid (qak s.ws (k+1)=qak s.ws k++(match qay s.ws (k:Int)with|some x=>[x]|none=>[])):=qim s.ws k;rw[n]at f g;cases ho:qay s.ws (k:Int)with
  |none=>
   have r:qav s.ws (k:Int)=⟨0,⟨#[]⟩,false⟩:=by unfold qav;rw[ho];rfl
   have t:Hid (qak s.ws (k+1)=qak s.ws k):=by show _=_;rw[H.out,ho];simp
   rw[ho]at f;rw[r]at g;rw[<-n]at f g;have y:Hid (Maps.has D (int i64 z)=false):=f;have C:Hid (D.atKey (int i64 z) (.held qqt)=.held (.agg #[int i64 0,.string ⟨#[]⟩,.bool false])):=g;have S:=own.alloc (.cells #[int i64 0,.string ⟨#[]⟩,.bool false] 100);have V:=boxed h (.cells #[int i64 0,.string ⟨#[]⟩,.bool false] 100)
   go_wp2_with (at_lookup;refine qcy _ rfl _ _ rfl (u:=.agg #[int i64 0,.string ⟨#[]⟩,.bool false]) rfl G rfl F.out y.out C.out ?_)
   go_roundw
   case rel=>exact⟨k+1,z+1,by omega,by have:=o.out;omega,by go_num,by rw[t.out];exact S,V⟩
   simp[intOf];have:=o.out;omega
  |some x=>
   obtain⟨a,c,d⟩:=x
   have r:qav s.ws (k:Int)=⟨a,c,d⟩:=by unfold qav;rw[ho];rfl
   have t:Hid (qak s.ws (k+1)=qak s.ws k++[⟨a,c,d⟩]):=by show _=_;rw[H.out,ho]
   rw[ho]at f;rw[r]at g;rw[<-n]at f g;have y:Hid (Maps.has D (int i64 z)=true):=f;have C:Hid (D.atKey (int i64 z) (.held qqt)=.held (.agg #[int i64 a,.string c,.bool d])):=g;have p:=own.alloc (.cells #[int i64 a,.string c,.bool d] 100);have m:=qd.new (w:=wr) (T:=100) [int i64 a,.string c,.bool d] rfl;change qd (wr.alloc (.cells #[int i64 a,.string c,.bool d] 100)) wr.heap.size [int i64 a,.string c,.bool d]at m;have q:=boxed h (.cells #[int i64 a,.string c,.bool d] 100);obtain⟨W1,I⟩:∃W1,wr.alloc (.cells #[int i64 a,.string c,.bool d] 100)=W1:=⟨_,rfl⟩;rw[I]at p m q;have y0:=m.cell 0 _ rfl;have y1:=m.cell 1 _ rfl;have y2:=m.cell 2 _ rfl;obtain⟨W,X,rfl,J⟩:=qbg p;have hcl:=J.len;have hcc:=J.cap
   go_wp2_with (first|(at_lookup;refine qcy _ rfl _ _ rfl (u:=.agg #[int i64 a,.string c,.bool d]) rfl G rfl F.out y.out C.out ?_)|(rw[I])|(at_builtin;refine wpList_append_lies _ rfl (.tmp 20) (.tmp 22) 88 rfl w.heap.size 100 M (.agg #[int i64 0,.string ⟨#[]⟩,.bool false]) 3 32 underlying88 hi N O P rfl (by decide) (.slice W (qak s.ws k).length X) (qak s.ws k).length (qcf (qak s.ws k)) rfl (p.alloc _) (AD W1.heap.size 0) 1 1 (wrC ⟨a,c,d⟩) rfl rfl (World.news_of_block (heap_alloc_new W1 (.cells #[int i64 a,.string c,.bool d] 100))) (by intro u K;simp[wrC]at K;rcases K with rfl|rfl|rfl<;>rfl) (by decide) (by simp only[maxLen];omega) (by omega) (by have:=q.size;simp;omega) _ rfl ?_;intro g9 cap9 wE Y Z egE ltE))
   have aa:=(boxed q (.cells #[int i64 a,.string c,.bool d] 100)).grown Z (by have:=q.size;simp;omega) (λj hj=>by have:=(p.lt _ hj).1;omega)
   go_roundw
   case rel=>exact⟨k+1,z+1,by omega,by have:=o.out;omega,by go_num,by rw[t.out,qkh,jcl];exact Y,aa⟩
   simp[intOf];have:=o.out;omega
 have R:¬z<8:=by omega
 have hkk:k=8:=by omega
 subst hkk
 go_wp2_with fail
 go_ret;exact⟨_,rfl,own,h⟩
end
section
open Tryz Go.Value Go.IntKind Go.RowKit Go.Maps
variable {b:Nat} {G:Nat->Prop} {s:qy}
theorem qz7 {w a w2:World} {bm:Nat} {x:Wr} (c:∀k,G k↔(k=b\/k=bm)) (f:bm≠b) (h:s.opn=true) (i:Bw w a) (B:qd a b (yj s (.map (some bm)))) (j:qes w2 bm (s.ws++[x])) (g:a.grownBy w2 (some bm)):qc8 w b G {s with ws:=s.ws++[x]} w2:=by
 refine⟨G,⟨.map (some bm),B.grown g (λe=>f (by injection e with e;exact e.symm)),.inr ⟨h,bm,rfl,f,j,c⟩⟩,λk l=>.inl l,?_⟩;exact(qc.ofBelow i).trans (qc.grown g (λk e=>(c k).2 (.inr (by injection e with e;exact e.symm))))
variable {d:ByteArray}
theorem qxq (h:d.toList.isEmpty=false):d.size≠0:=λe=>by
 rw[qca]at h;have:=yh d;rw[e]at this;rw[List.length_eq_zero_iff.1 this]at h;cases h
theorem qva (h:d.toList.isEmpty=true):d.size=0:=by
 rw[qca,List.isEmpty_iff]at h;rw[<-yh,h];rfl
theorem qxg (x:Wr) (w:World) (h:PSe w b G s):
 Ca 155 #[PP b,wrV x] w λe w'=>e=.returned (jc (qaj s x))/\qc8 w b G (qd2 s x) w':=by
 have NO:∀L ev,qaj s x=ev->ev≠0->Bw w L->Hid ((.returned (jc ev):Ending)=.returned (jc (qaj s x))/\qc8 w b G (qd2 s x) L):=λL ev H M e3=>by
  show _/\_;rw[H,show qd2 s x=s by unfold qd2;rw[if_neg (by rw[H];exact M)]];exact⟨rfl,qc8.same h e3⟩
 obtain⟨a,c,f⟩:=x;obtain⟨mv,B0,hm⟩:=h;have l:=boxed (jcc _ w) (.cells #[int i64 a,.string c,.bool f] 100);have N:=qd.new (w:=w) (T:=100) [int i64 a,.string c,.bool f] rfl;change qd (w.alloc (.cells #[int i64 a,.string c,.bool f] 100)) w.heap.size [int i64 a,.string c,.bool f]at N;have B:=B0.later l;have q:=hd1 NO;show Ca 155 #[PP b,.agg #[int i64 a,.string c,.bool f]] w _;have k4:=B.cell 4 _ rfl;rcases hm with ⟨r,rfl,_,_⟩|⟨r,bm,rfl,hne,hM,hG⟩;rw[r]at k4
 have E:qaj s ⟨a,c,f⟩=6:=by unfold qaj;rw[if_pos r]
 have m:=(q.out _ 6 E (by decide) l).out
 rotate_left
 rw[r]at k4
 have t:¬s.opn=false:=by rw[r];decide
 by_cases hk0:a<0
 have E:qaj s ⟨a,c,f⟩=2:=by unfold qaj;rw[if_neg t,if_pos (.inl hk0)]
 have m:=(q.out _ 2 E (by decide) l).out
 rotate_left
 by_cases hk8:8<=a
 have E:qaj s ⟨a,c,f⟩=2:=by unfold qaj;rw[if_neg t,if_pos (.inr hk8)]
 have m:=(q.out _ 2 E (by decide) l).out
 rotate_left
 have I:¬(a<0\/8<=a):=by omega
 by_cases hlen:12<(c.size:Int)
 have E:qaj s ⟨a,c,f⟩=4:=by unfold qaj;rw[if_neg t,if_neg I,if_pos (by show 12<c.size;omega)]
 have m:=(q.out _ 4 E (by decide) l).out
 rotate_left
 have O:¬12<c.size:=by omega
 have TAIL:∀g:Bool,f=g->(g=false\/c.toList.isEmpty=true)->Hid (¬(f=true/\c.size≠0)):=λg e h=>by
  show ¬_;rintro ⟨H,M⟩;rcases h with h|h
  ·rw[H]at e;rw[<-e]at h;cases h
  exact M (qva h)
 have RM:Hid (∀{v:Bool},decide (qay s.ws a=none/\5<=(jh s.ws).length)=!v->Ca 213 #[PP b,int i64 a] (w.alloc (.cells #[int i64 a,.string c,.bool f] 100)) λe w'=>e=.returned (.bool v)/\Below (w.alloc (.cells #[int i64 a,.string c,.bool f] 100)).heap.size (w.alloc (.cells #[int i64 a,.string c,.bool f] 100)) w'):=λu=>qu3 a (q8f ⟨by omega,by omega⟩) _ B (hM.later l) u;have KEY:Hid (keyOf prog 3 (int i64 a)=some (int i64 a)):=q4f ⟨by omega,by omega⟩;have j:Hid (qd w b (yj s (.map (some bm)))/\qes w bm s.ws/\bm≠b/\(∀k,G k↔(k=b\/k=bm))/\s.opn=true/\¬s.opn=false/\¬(a<0\/8<=a)/\¬12<c.size/\0<=a/\a<8):=⟨B0,hM,hne,hG,r,t,I,O,by omega,by omega⟩;cases hgg:(f&&!c.toList.isEmpty)
 ·have HT:Hid (¬(f=true/\c.size≠0)):=by
   cases f
   ·exact TAIL false rfl (.inl rfl)
   exact TAIL true rfl (.inr (by simpa using hgg))
  cases u:decide (qay s.ws a=none/\5<=(jh s.ws).length)
  ·have J:=RM.out (v:=true) (by rw[u];rfl)
   have K:Hid (qaj s ⟨a,c,f⟩=0):=by
        show _=_;unfold qaj;rw[if_neg j.out.2.2.2.2.2.1,if_neg j.out.2.2.2.2.2.2.1,if_neg j.out.2.2.2.2.2.2.2.1,if_neg HT.out,if_neg (of_decide_eq_false u)]
   have HRX:=hd1 N;have GO:Hid (∀i,Below (w.alloc (.cells #[int i64 a,.string c,.bool f] 100)).heap.size (w.alloc (.cells #[int i64 a,.string c,.bool f] 100)) i->qd i b (yj s (.map (some bm)))/\qes i bm s.ws/\qd i w.heap.size [int i64 a,.string c,.bool f]/\Bw w i):=λi y=>⟨(j.out.1.later l).later y,(j.out.2.1.later l).later y,HRX.out.later y,qa l y⟩;cases f
   ·clear hgg N;go_enter func155,ntmps155
    go_wp2_with fail
    refine J.mono ?_;rintro e i ⟨rfl,z⟩;obtain⟨C,P,o,Q⟩:=GO.out i z;obtain⟨R,D,F,S⟩:=P;have p:=hd3 R F S;have V:i.drew.ownsMap prog 3 qcd bm (jh s.ws).length D:=F;have W:=hd1 C;have X:Hid ((jh s.ws).length<=8):=qkg s.ws 8;obtain⟨Y,hrun,Z,aa⟩:=V.store qtl underlying221 (by have:=X.out;simp only[maxLen];omega) KEY.out (val:=.agg #[int i64 a,.string c,.bool false]) (d:=.held (.agg #[int i64 a,.string c,.bool false])) (ps:=[]) rfl
    go_wp2_with fail
    have k9:=C.cell 9 _ rfl;have x0:=o.cell 0 _ rfl;have x1:=o.cell 1 _ rfl;have x2:=o.cell 2 _ rfl
    go_region
    all_goals
     have M7:=qes.put p.out.1 p.out.2.1 p.out.2.2 (x:=⟨a,c,false⟩) j.out.2.2.2.2.2.2.2.2.1 j.out.2.2.2.2.2.2.2.2.2 Z;have n:=aa.grown;have gr:i.grownBy Y (some bm):=⟨n.os,n.tape,n.output,n.size,n.block⟩;have m:=qz7 j.out.2.2.2.1 j.out.2.2.1 j.out.2.2.2.2.1 Q W.out M7 gr
     go_wp2_with fail
     go_ret;refine⟨by rw[K.out];rfl,?_⟩;rw[show qd2 s ⟨a,c,false⟩={s with ws:=s.ws++[⟨a,c,false⟩]} by unfold qd2;rw[if_pos K.out]];exact m
   have hee:c.toList.isEmpty=true:=by simpa using hgg
   go_enter func155,ntmps155
   go_wp2_with fail
   refine J.mono ?_;rintro e i ⟨rfl,z⟩;obtain⟨C,P,o,Q⟩:=GO.out i z;obtain⟨R,D,F,S⟩:=P;have p:=hd3 R F S;have V:i.drew.ownsMap prog 3 qcd bm (jh s.ws).length D:=F;have W:=hd1 C;have X:Hid ((jh s.ws).length<=8):=qkg s.ws 8;obtain⟨Y,hrun,Z,aa⟩:=V.store qtl underlying221 (by have:=X.out;simp only[maxLen];omega) KEY.out (val:=.agg #[int i64 a,.string c,.bool true]) (d:=.held (.agg #[int i64 a,.string c,.bool true])) (ps:=[]) rfl
   go_wp2_with fail
   have k9:=C.cell 9 _ rfl;have x0:=o.cell 0 _ rfl;have x1:=o.cell 1 _ rfl;have x2:=o.cell 2 _ rfl
   go_region
   all_goals
        have M7:=qes.put p.out.1 p.out.2.1 p.out.2.2 (x:=⟨a,c,true⟩) j.out.2.2.2.2.2.2.2.2.1 j.out.2.2.2.2.2.2.2.2.2 Z;have n:=aa.grown;have gr:i.grownBy Y (some bm):=⟨n.os,n.tape,n.output,n.size,n.block⟩;have m:=qz7 j.out.2.2.2.1 j.out.2.2.1 j.out.2.2.2.2.1 Q W.out M7 gr
        go_wp2_with fail
        go_ret;refine⟨by rw[K.out];rfl,?_⟩;rw[show qd2 s ⟨a,c,true⟩={s with ws:=s.ws++[⟨a,c,true⟩]} by unfold qd2;rw[if_pos K.out]];exact m
  have J:=RM.out (v:=false) (by rw[u];rfl)
  have E:qaj s ⟨a,c,f⟩=12:=by unfold qaj;rw[if_neg t,if_neg I,if_neg O,if_neg HT.out,if_pos (of_decide_eq_true u)]
  have m:Hid (∀i,Below (w.alloc (.cells #[int i64 a,.string c,.bool f] 100)).heap.size (w.alloc (.cells #[int i64 a,.string c,.bool f] 100)) i->(.returned (jc 12):Ending)=.returned (jc (qaj s ⟨a,c,f⟩))/\qc8 w b G (qd2 s ⟨a,c,f⟩) i):=λi y=>(q.out _ 12 E (by decide) (qa l y)).out;cases f
  all_goals
   (try have hee:c.toList.isEmpty=true:=by simpa using hgg)
   go_enter func155,ntmps155
   go_wp2_with fail
   refine J.mono ?_;rintro e i ⟨rfl,z⟩
   go_wp2_with fail
   go_ret;exact m.out i z
 simp only[jct,Bool.not_eq_true']at hgg;obtain⟨rfl,hee⟩:=hgg
 have E:qaj s ⟨a,c,true⟩=1:=by unfold qaj;rw[if_neg t,if_neg I,if_neg O,if_pos ⟨rfl,qxq hee⟩]
 have m:=(q.out _ 1 E (by decide) l).out
 all_goals
  go_enter func155,ntmps155
  go_wp2_with fail
  go_ret;exact m
end
section
open Tryz Go.RowKit
structure WfW (W:WoS):Prop where
 n1:1<=W.n
 n4:W.n<=4
 c6:W.c<=6
 at_:∀k,k<W.c->W.at_ k<W.n
 inv:∀i,i<W.n->j3 (W.S i)
 id:∀i,i<W.n->(W.S i).id=(i:Int)
 net:W.net.length<=300
 wt:∀i,i<W.n->(W.S i).waits.length<=40
 lok:∀i,i<W.n->∀x∈(W.S i).log,okT x=true
 to:∀g∈W.net,g.to<W.n
variable {i:Nat}
section
variable {w:World} {b:Nat} {G:Nat->Prop} {M:WoM} {W:WoS} {Gs:Nat->Nat->Prop}
theorem PWo.client (h:PWo w b M W Gs) (hi:i<W.c):∃cb d,w.cell? (AD b 1)=some (.slice (PT cb) W.c d)/\W.c<=d/\cb<w.heap.size/\w.cell? (AD cb (i*2))=some (PP (M.bs i))/\w.cell? (AD cb (i*2+1))=some (U (W.at_ i)):=by
 obtain⟨a,cap,e,r⟩:=qq h.cr;rcases r.held with l|⟨g,rfl,j,f⟩
 ·omega
 have k:=h.box.cell 1 _ rfl;rw[e]at k;exact⟨g,cap,k,r.len,j,f _ _ (qea hi).1,f _ _ (qea hi).2⟩
theorem PWo.place (h:PWo w b M W Gs) (hi:i<W.n):∃c d,w.cell? (AD b 0)=some (.slice (PT c) W.n d)/\W.n<=d/\c<w.heap.size/\w.cell? (AD c (i*2))=some (PP (M.bp i))/\w.cell? (AD c (i*2+1))=some (U (W.wall i)):=by
 obtain⟨a,cap,e,r⟩:=qq h.pr;rcases r.held with l|⟨g,rfl,j,f⟩
 ·omega
 have k:=h.box.cell 0 _ rfl;rw[e]at k;exact⟨g,cap,k,r.len,j,f _ _ (qea hi).1,f _ _ (qea hi).2⟩
end
variable {b n:Nat} {a:Option Addr} {k:Int} {v:Bool}
theorem yi {cap:Nat} (w:World) (c:w.cell? (AD b 0)=some (.slice a n cap)) (h:(decide (0<=k)&&decide (k<(n:Int)))=v):
 Ca 141 #[PP b,U k] w λe w'=>e=.returned (.bool v)/\w'=w:=by
 by_cases d:0<=k;by_cases f:k<(n:Int)
 have e:v=true:=by rw[<-h];simp[d,f]
 rotate_left
 have e:v=false:=by rw[<-h];simp[f]
 rotate_left
 have e:v=false:=by rw[<-h];simp[d]
 all_goals
  subst e;clear h;go_enter func141,ntmps141
  go_wp2_with fail
  go_ret;exact⟨rfl,rfl⟩
theorem yf {cap:Nat} (w:World) (c:w.cell? (AD b 1)=some (.slice a n cap)) (h:(decide (0<=k)&&decide (k<(n:Int)))=v):
 Ca 138 #[PP b,U k] w λe w'=>e=.returned (.bool v)/\w'=w:=by
 by_cases d:0<=k;by_cases f:k<(n:Int)
 have e:v=true:=by rw[<-h];simp[d,f]
 rotate_left
 have e:v=false:=by rw[<-h];simp[f]
 rotate_left
 have e:v=false:=by rw[<-h];simp[d]
 all_goals
  subst e;clear h;go_enter func138,ntmps138
  go_wp2_with fail
  go_ret;exact⟨rfl,rfl⟩
theorem qey {cap:Nat} (w:World) (c:w.cell? (AD b 2)=some (.slice a n cap)) (h:(decide (0<=k)&&decide (k<(n:Int)))=v):
 Ca 152 #[PP b,U k] w λe w'=>e=.returned (.bool v)/\w'=w:=by
 by_cases d:0<=k;by_cases f:k<(n:Int)
 have e:v=true:=by rw[<-h];simp[d,f]
 rotate_left
 have e:v=false:=by rw[<-h];simp[f]
 rotate_left
 have e:v=false:=by rw[<-h];simp[d]
 all_goals
  subst e;clear h;go_enter func152,ntmps152
  go_wp2_with fail
  go_ret;exact⟨rfl,rfl⟩
variable {G:Nat->Prop} {W:WoS}
theorem q4w (w:World) (h:PW w b G W) (d:WfW W) (hi:i<W.c):
 Ca 98 #[PP b,U i] w λe w'=>e=.returned (jc (qhl (W.S (W.at_ i)) (W.ses i)))/\vh w b G (vf W i (qhd (W.S (W.at_ i)) (W.ses i))) w':=by
 obtain⟨M,Gs,h,g⟩:=h;have j:=hd2 h g;obtain⟨cb,t,o,u,x,x0,x1⟩:=h.client hi;obtain⟨y,z,B,C,D,E,F⟩:=h.place (d.at_ i hi);have H:=h.box.lt;have l:=yf (k:=i) (v:=true) w o (by simp;omega);have f:=(boxed (jcc _ w) (.cells #[PP (M.bs i),U (W.at_ i)] 171)).drew;have p:=hd1 (qyu _ ((h.sess hi).later f) ((h.site (d.at_ i hi)).later f))
 have I:(i:Int)<(W.c:Int):=by omega
 have J:(W.at_ i:Int)<(W.n:Int):=by have:=d.at_ i hi;omega
 clear h g d;go_enter func98,ntmps98
 go_wp2_with fail
 refine l.mono ?_;rintro e w2 ⟨rfl,m⟩;have q:=m.symm;clear m l;subst q
 go_wp2_with fail
 go_region_law (refine je rfl 145 #[PP (M.bs i),.pointer (some (AD (M.bp (W.at_ i)) 0))] (by go_simp) p.out ?_
                rintro e K ⟨rfl,r⟩
                refine⟨_,rfl,?_⟩)
 all_goals
  go_wp2_with fail
  go_ret;exact⟨rfl,j.out.1.stepC j.out.2 hi (qc8.trans (λk s=>.inl s) (qc.ofBelow f) r)⟩
theorem q7w (key:Int) (l:(Lit.int .i64 key).wf=true) (w:World) (h:PW w b G W) (d:WfW W) (hi:i<W.c):
 Ca 113 #[PP b,U i,U key] w λe w'=>e=.returned (.tuple #[.string (vi (W.S (W.at_ i)) (W.ses i) key).1,jc (vi (W.S (W.at_ i)) (W.ses i) key).2])/\Bw w w':=by
 obtain⟨M,Gs,h,m⟩:=h;obtain⟨cb,s,o,t,u,x0,x1⟩:=h.client hi;obtain⟨x,y,z,B,C,D,E⟩:=h.place (d.at_ i hi);have F:=h.box.lt;have g:=yf (k:=i) (v:=true) w o (by simp;omega);have f:=(boxed (jcc _ w) (.cells #[PP (M.bs i),U (W.at_ i)] 171)).drew;have p:=hd1 (qxe key l _ ((h.sess hi).later f) ((h.site (d.at_ i hi)).later f) (d.inv _ (d.at_ i hi)))
 have H:(i:Int)<(W.c:Int):=by omega
 have I:(W.at_ i:Int)<(W.n:Int):=by have:=d.at_ i hi;omega
 clear h m d;go_enter func113,ntmps113
 go_wp2_with fail
 refine g.mono ?_;rintro e w2 ⟨rfl,j⟩;have q:=j.symm;clear j g;subst q
 go_wp2_with fail
 go_region_law (refine je rfl 158 #[PP (M.bs i),.pointer (some (AD (M.bp (W.at_ i)) 0)),U key] (by go_simp) p.out ?_
                rintro e J ⟨rfl,r⟩
                refine⟨_,rfl,?_⟩)
 all_goals
  go_wp2_with fail
  go_ret2;exact⟨rfl,qa f r⟩
theorem qv8 (d:Int) (f:ByteArray) (g:Bool) (w:World) (h:PW w b G W) (hi:i<W.c):
 Ca 105 #[PP b,U i,.agg #[U d,.string f,.bool g]] w λe w'=>e=.returned (jc (qaj (W.ses i) ⟨d,f,g⟩))/\vh w b G (vf W i (qd2 (W.ses i) ⟨d,f,g⟩)) w':=by
 obtain⟨M,Gs,h,j⟩:=h;have l:=hd2 h j;obtain⟨cb,y,r,z,B,x0,x1⟩:=h.client hi;have C:=h.box.lt;have m:=boxed (jcc _ w) (.cells #[U d,.string f,.bool g] 100);have o:=yf (k:=i) (v:=true) (w.alloc (.cells #[U d,.string f,.bool g] 100)) (cell_later m r) (by simp;omega);have p:=m.drew;have s:Hid (Ca 155 #[PP (M.bs i),.agg #[U d,.string f,.bool g]] (w.alloc (.cells #[U d,.string f,.bool g] 100)).drew λe w'=>e=.returned (jc (qaj (W.ses i) ⟨d,f,g⟩))/\qc8 (w.alloc (.cells #[U d,.string f,.bool g] 100)).drew (M.bs i) (Gs (W.n+i)) (qd2 (W.ses i) ⟨d,f,g⟩) w'):=qxg ⟨d,f,g⟩ _ ((h.sess hi).later p)
 have D:(i:Int)<(W.c:Int):=by omega
 clear h j;go_enter func105,ntmps105
 go_wp2_with fail
 refine o.mono ?_;rintro e w2 ⟨rfl,q⟩;have t:=q.symm;clear q o;subst t
 go_wp2_with fail
 go_region_law (refine je rfl 155 #[PP (M.bs i),.agg #[U d,.string f,.bool g]] (by go_simp) s.out ?_
                rintro e E ⟨rfl,u⟩
                refine⟨_,rfl,?_⟩)
 all_goals
  go_wp2_with fail
  go_ret;exact⟨rfl,l.out.1.stepC l.out.2 hi (qc8.trans (λk x=>.inl x) (qc.ofBelow p) u)⟩
theorem q36 (w:World) (h:PW w b G W) (hi:i<W.c):
 Ca 94 #[PP b,U i] w λe w'=>e=.returned (jc (qi5 (W.ses i)))/\vh w b G (vf W i (qhh (W.ses i))) w':=by
 obtain⟨M,Gs,h,d⟩:=h;have f:=hd2 h d;obtain⟨cb,q,l,r,s,x0,x1⟩:=h.client hi;have t:=h.box.lt;have g:=yf (k:=i) (v:=true) w l (by simp;omega);have m:=qw7 w (h.sess hi)
 have u:(i:Int)<(W.c:Int):=by omega
 clear h d;go_enter func94,ntmps94
 go_wp2_with fail
 refine g.mono ?_;rintro e w2 ⟨rfl,j⟩;have o:=j.symm;clear j g;subst o
 go_wp2_with fail
 refine m.mono ?_;rintro e x ⟨rfl,p⟩
 go_wp2_with fail
 go_ret;exact⟨rfl,f.out.1.stepC f.out.2 hi p⟩
theorem q81 (w:World) (h:PW w b G W):
 Ca 110 #[PP b] w λe w'=>e=.returned (U W.net.length)/\w'=w:=by
 obtain⟨M,Gs,h,f⟩:=h
 have c:M.l.length=W.net.length:=by rw[<-h.nl];simp
 obtain⟨j,m,d,r⟩:=qq h.nr;have g:=h.box.cell 2 _ rfl;rw[d,c]at g;clear h f d r c;go_enter func110,ntmps110
 go_wp2_with fail
 go_ret;exact⟨rfl,rfl⟩
end
section
open Go.RowKit
variable {S S':qe}
theorem qfm.few (h:qfm S S'):S'.waits.length<=S.waits.length:=h.log.2
theorem qfm.keepid (h:qfm S S'):S'.id=S.id:=by
 induction h with
 |full _=>rfl
 |none _=>rfl
 |step _ _ _ ih=>exact ih
theorem qfm.lok (h:qfm S S'):(∀x∈S.log,okT x=true)->(∀x∈S.waits,okT x=true)->∀x∈S'.log,okT x=true:=by
 induction h with
 |full _=>exact λh _=>h
 |none _=>exact λh _=>h
 |@step S S' x h1 h2 _ ih=>
  intro c b;refine ih (λy a=>?_) (λy a=>b y (qrh.1 a).1);rcases jcf.1 (show y∈S.log++[x]from a)with e|e
  ·exact c y e
  rw[jcj.1 e];exact b x (qj8 h2).1
variable {t:TxP}
theorem qy7 (b:t∈S.waits) (a:0<=t.site/\t.site<=3) (c:qz S t=true):qd7 S≠none:=λe=>by
 have:=qyy e t b a.1 a.2;rw[c]at this;cases this
theorem zu.few (h:zu S t S') (d:j3 S) (f:S.waits.length<=40):S'.waits.length<=40:=by
 rcases h with ⟨_,rfl⟩|⟨e,b⟩
 ·exact f
 obtain⟨p1,p2,p3,c,l⟩:=qf6 e;by_cases m:S.waits.length<40
 ·have:=b.few;simp at this;omega
 have a:qz S t=true:=by
  unfold jf at e
  rw[if_neg (by rw[p1];decide),if_neg p2,if_neg p3,if_neg (by
   intro q;obtain⟨x,j,hi⟩:=List.any_eq_true.1 q;rw[c x j]at hi
   cases hi),if_neg (by omega)]at e
  by_cases q:40<=S.waits.length/\qz S t=false
  ·rw[if_pos q]at e;omega
  cases a:qz S t with
  |true=>rfl
  |false=>exact absurd ⟨by omega,a⟩ q
 have k:=(qcg p1).1;cases b with
 |full hf=>exact absurd hf (by show ¬200<=S.log.length;omega)
 |none hn=>exact absurd hn (qy7 (S:={S with waits:=S.waits++[t]}) (jcf.2 (.inr (jcj.2 rfl))) k a)
 |@step _ _ x h1 h2 h3=>
  have l1:=h3.few;have n:=qf5 (d.nums.snoc c) (qj8 h2).1
  have p:(S.waits++[t]).length=S.waits.length+1:=by simp
  have r:(qj5 {S with waits:=S.waits++[t]} x).waits.length=(qdv (S.waits++[t]) x).length:=rfl;omega
theorem zu.keepid (h:zu S t S'):S'.id=S.id:=by
 rcases h with ⟨_,rfl⟩|⟨_,a⟩
 ·rfl
 exact a.keepid
theorem zu.lok (h:zu S t S') (b:j3 S) (a:∀x∈S.log,okT x=true):∀x∈S'.log,okT x=true:=by
 rcases h with ⟨_,rfl⟩|⟨e,c⟩
 ·exact a
 obtain⟨p1,_⟩:=qf6 e;refine c.lok a (λx d=>?_);rcases jcf.1 (show x∈S.waits++[t]from d)with q|q
 ·exact(b.wt x q).1
 rw[jcj.1 q];exact p1
variable {i o:Nat}
section
variable {W W':WoS} {g:GrS}
theorem WfW.setSite (h:WfW W) (b:j3 S') (c:S'.id=(i:Int)) (d:S'.waits.length<=40) (e:∀x∈S'.log,okT x=true):WfW (setSite W i S'):=by
 refine⟨h.n1,h.n4,h.c6,h.at_,λj a=>?_,λj a=>?_,h.net,λj a=>?_,λj a=>?_,h.to⟩<;>show _<;>by_cases q:j=i
 ·subst q;show j3 (jj W.S j S' j);rw[qt];exact b
 ·show j3 (jj W.S i S' j);rw[yq _ _ q];exact h.inv j a
 ·subst q;show (jj W.S j S' j).id=_;rw[qt];exact c
 ·show (jj W.S i S' j).id=_;rw[yq _ _ q];exact h.id j a
 ·subst q;show (jj W.S j S' j).waits.length<=40;rw[qt];exact d
 ·show (jj W.S i S' j).waits.length<=40;rw[yq _ _ q];exact h.wt j a
 ·subst q;show ∀x∈(jj W.S j S' j).log,_;rw[qt];exact e
 show ∀x∈(jj W.S i S' j).log,_;rw[yq _ _ q];exact h.lok j a
theorem WfW.send (h:WfW W) (a:g.to<W.n):WfW (zk W g):=by
 have s:=yb W g;refine⟨by rw[s.n];exact h.n1,by rw[s.n];exact h.n4,by rw[s.c];exact h.c6,by rw[s.n,s.c,s.at_];exact h.at_,by rw[s.n,s.S];exact h.inv,by rw[s.n,s.S];exact h.id,?_,by rw[s.n,s.S];exact h.wt,by rw[s.n,s.S];exact h.lok,λx b=>?_⟩
 ·unfold zk;split
  ·exact h.net
  show (W.net++[g]).length<=300;simp;omega
 rw[s.n];rcases qke b with q|q
 ·exact h.to x q
 rw[q];exact a
theorem WfW.sends:∀(l:List TxP) (W:WoS),WfW W->o<W.n->WfW (zl o l W)
 |[],_,h,_=>h
 |t::l,W,h,ho=>by
  unfold zl;split
  ·exact WfW.sends l W h ho
  exact WfW.sends l _ (h.send ho) (by rw[(yb W ⟨o,.tx t⟩).n];exact ho)
theorem WfW.tell:∀(k:Nat) (W:WoS),WfW W->k<=W.n->WfW (qam t k W)
 |0,_,h,_=>h
 |k+1,W,h,hk=>by
  unfold qam;split
  ·exact WfW.tell k W h (by omega)
  exact(WfW.tell k W h (by omega)).send (by rw[(zx t k W).n];show k<W.n;omega)
theorem WfW.answer (h:WfW W) (hi:i<W.n) (a:o<W.n) (b c d e:Int):WfW (qbc W i o b c d e):=
 WfW.sends _ _ (h.setSite ((h.inv i hi).knows _) (h.id i hi) (h.wt i hi) (h.lok i hi)) a
theorem WfW.drop (h:WfW W) (i:Nat):WfW (qai W i):=
 ⟨h.n1,h.n4,h.c6,h.at_,h.inv,h.id,jcn (List.eraseIdx_sublist W.net i).length_le h.net,h.wt,h.lok,λx a=>h.to x (jdn a)⟩
theorem WfW.come (h:WfW W) (a:g.to<W.n) (e:qeo W g W'):WfW W':=by
 obtain⟨b,f⟩:=g;cases f with
 |tx t=>
  obtain⟨S',c,rfl⟩:=e;exact h.setSite (c.inv (h.inv b a)) (c.keepid.trans (h.id b a)) (c.few (h.inv b a) (h.wt b a)) (c.lok (h.inv b a) (h.lok b a))
 |ask site v0 v1 v2 v3=>
  have d:if 0<=site/\site<(W.n:Int)then W'=qbc W b site.toNat v0 v1 v2 v3 else W'=W:=e
  by_cases q:0<=site/\site<(W.n:Int)
  ·rw[if_pos q]at d;rw[d];exact h.answer a (by omega) v0 v1 v2 v3
  rw[if_neg q]at d;rw[d];exact h
theorem WfW.deliver (h:WfW W) (a:zy W i W'):WfW W':=by
 obtain⟨g,b,c⟩:=a;exact(h.drop i).come (h.to g (jcq b)) c
def qu6:GrS->Nat
 |⟨_,.tx _⟩=>1
 |⟨_,.ask _ _ _ _ _⟩=>302
def qjh (l:List GrS):Nat:=(l.map qu6).sum
theorem qf0 (o:Nat):∀(l:List TxP) (W:WoS),W.net.length<=300->qjh (zl o l W).net+W.net.length<=qjh W.net+300
 |[],W,h=>by show qjh W.net+_<=_;omega
 |t::l,W,h=>by
  unfold zl;split
  ·exact qf0 o l W h
  by_cases q:300<=W.net.length
  ·have e:(zk W ⟨o,.tx t⟩).net=W.net:=by unfold zk;rw[if_pos q]
   have:=qf0 o l (zk W ⟨o,.tx t⟩) (by rw[e];exact h);rw[e]at this;exact this
  have e:=q1h (W:=W) (g:=⟨o,.tx t⟩) (by omega);have:=qf0 o l (zk W ⟨o,.tx t⟩) (by rw[e];simp;omega);rw[e]at this;simp[qjh,qu6]at this ⊢;omega
theorem qjk (h:WfW W) (b:zy W 0 W'):qjh W'.net<qjh W.net:=by
 obtain⟨⟨a,j⟩,c,k⟩:=b
 obtain⟨r,d⟩:∃r,W.net=⟨a,j⟩::r:=by
  cases hn:W.net with
  |nil=>rw[hn]at c;simp at c
  |cons x r=>
   rw[hn]at c;simp at c;exact⟨r,by rw[c]⟩
 have b:(qai W 0).net=r:=by show W.net.eraseIdx 0=r;rw[d];rfl
 have l:r.length+1<=300:=by have:=h.net;rw[d]at this;simpa using this
 cases j with
 |tx t=>
  obtain⟨S',_,rfl⟩:=k;show qjh (qai W 0).net<_;rw[b,d];simp[qjh,qu6]
 |ask site v0 v1 v2 v3=>
  have f:if 0<=site/\site<((qai W 0).n:Int)then W'=qbc (qai W 0) a site.toNat v0 v1 v2 v3 else W'=qai W 0:=k
  by_cases q:0<=site/\site<((qai W 0).n:Int)
  ·rw[if_pos q]at f;have:=qf0 site.toNat (qd6 ((qai W 0).S a) v0 v1 v2 v3) (setSite (qai W 0) a (vp ((qai W 0).S a) site.toNat v0 v1 v2 v3)) (by show (qai W 0).net.length<=300;rw[b];omega);rw[f];have e:(setSite (qai W 0) a (vp ((qai W 0).S a) site.toNat v0 v1 v2 v3)).net=r:=b;rw[e]at this;show qjh (zl _ _ _).net<_;rw[d];simp[qjh,qu6]at this ⊢;omega
  rw[if_neg q]at f;rw[f,b,d];simp[qjh,qu6]
end
end
section
open Go.RowKit
def q69 (n:Nat) (g:GrS):Prop:=
 match g.body with
 |.tx t=>okT t=true
 |.ask s _ _ _ _=>0<=s/\s<(n:Int)
def qeq (W:WoS):Prop:=∀g∈W.net,q69 W.n g
variable {i:Nat} {A B:WoS}
section
variable {W W':WoS} {g:GrS}
theorem qeq.send (h:qeq W) (a:q69 W.n g):qeq (zk W g):=λx b=>by
 rw[(yb W g).n];rcases qke b with q|q
 ·exact h x q
 rw[q];exact a
theorem qeq.drop (h:qeq W) (i:Nat):qeq (qai W i):=λx a=>h x (jdn a)
theorem qeq.tell (h:qeq W) {t:TxP} (a:okT t=true) (k:Nat):qeq (qam t k W):=λx b=>by
 rw[(zx t k W).n];rcases qm3 k b with q|⟨_,q⟩
 ·exact h x q
 obtain⟨d,c⟩:=x;have q:c=.tx t:=q;subst q;exact a
theorem qeq.come (h:qeq W) (d:WfW W) (e:g.to<W.n) (a:qeo W g W'):qeq W':=by
 obtain⟨b,c⟩:=g;cases c with
 |tx t=>
  obtain⟨S',_,rfl⟩:=a;exact h
 |ask s v0 v1 v2 v3=>
  have a:if 0<=s/\s<(W.n:Int)then W'=qbc W b s.toNat v0 v1 v2 v3 else W'=W:=a
  split at a
  ·rw[a];intro x f;show q69 (qbc W b s.toNat v0 v1 v2 v3).n x;rw[show (qbc W b s.toNat v0 v1 v2 v3).n=W.n from(qds _ _ _).n];rcases qp9 _ _ f with q|⟨_,t,j,_,q⟩
   ·exact h x q
   obtain⟨k,c⟩:=x;have q:c=.tx t:=q;subst q;exact d.lok b e t (jdq.1 j).1
  rw[a];exact h
theorem qeq.deliver (h:qeq W) (a:WfW W) (b:zy W i W'):qeq W':=by
 obtain⟨g,c,d⟩:=b;exact(h.drop i).come (a.drop i) (a.to g (jcq c)) d
theorem qeo.det (h:qeo W g A) (k:qeo W g B):A=B:=by
 obtain⟨a,b⟩:=g;cases b with
 |tx t=>
  obtain⟨e,c,rfl⟩:=h;obtain⟨f,d,rfl⟩:=k;rw[zu.det c d]
 |ask s v0 v1 v2 v3=>
  have h:if 0<=s/\s<(W.n:Int)then A=qbc W a s.toNat v0 v1 v2 v3 else A=W:=h
  have k:if 0<=s/\s<(W.n:Int)then B=qbc W a s.toNat v0 v1 v2 v3 else B=W:=k
  split at h
  ·rename_i q;rw[if_pos q]at k;rw[h,k]
  rename_i q;rw[if_neg q]at k;rw[h,k]
theorem zy.det (h:zy W i A) (k:zy W i B):A=B:=by
 obtain⟨g,b,c⟩:=h;obtain⟨g',a,d⟩:=k;rw[b]at a;cases a;exact c.det d
end
variable {W:WoS}
theorem qaf.det (h:qaf W A):qaf W B->A=B:=by
 induction h with
 |none h0=>
  intro k;cases k with
  |none _=>rfl
  |step h1 _ _=>exact absurd h0 h1
 |step h1 h2 _ ih=>
  intro k;cases k with
  |none h0=>exact absurd h0 h1
  |step _ k2 k3=>
   rw[h2.det k2]at ih;exact ih k3
variable {m:Nat}
theorem qdo.det {k:Nat} (h:qdo k m W A):∀{B:WoS},qdo k m W B->A=B:=by
 induction h with
 |zero=>
  intro B q;cases q;rfl
 |self _ e ih=>
  intro B q;cases q with
  |self q _=>exact ih q
  |ask _ n _=>exact absurd e n
 |ask _ n h3 ih=>
  intro B q;cases q with
  |self _ e=>exact absurd e n
  |ask q _ q3=>
   have:=ih q;subst this;exact h3.det q3
theorem qc1.det (h:qc1 m W A):∀{B:WoS},qc1 m W B->A=B:=by
 induction h with
 |zero=>
  intro B q;cases q;rfl
 |next _ h2 ih=>
  intro B q;cases q with
  |next q q2=>
   have:=ih q;subst this;exact h2.det q2
theorem qg9.det (h:qg9 W A) (k:qg9 W B):A=B:=by
 obtain⟨W1,a,b⟩:=h;obtain⟨e,c,d⟩:=k;have:=a.det c;subst this;exact b.det d
end
section
open Go.RowKit
theorem q2d (l:List GrM) (m:GrM):qap (l++[m])=qap l++qpe m:=by simp[qap]
theorem qr2 (m:GrM):∀u∈qpe m,u.oneCell'=true:=by
 intro u a;simp[qpe]at a
 rcases a with rfl|rfl<;>rfl
theorem quo:(Tryz.prog.info? 205).map (λi=>(i.zero,i.size,i.bytes))=some (some (.agg #[U 0,.slice none 0 0]),2,32):=by kernel_rfl
theorem qpn (W:World) (n:Nat) (c:W.heap.size=n) (a:List Value) (T:TypeId):∀j u,a[j]?=some u->(W.alloc (.cells a.toArray T)).cell? (((AD n 0):Addr).add j)=some u:=by
 subst c;exact World.news_of_block (heap_alloc_new W (.cells a.toArray T))
section
variable {w w2 wE:World} {b g cap:Nat} {G:Nat->Prop} {M:WoM} {W:WoS} {Gs:Nat->Nat->Prop} {m:GrM}
theorem PWo.pushed (h:PWo w b M W Gs) (z:Bw w w2) (E:m.Ok w) (H:(∃x∈M.l,x.blk=m.blk)\/¬qmp b M (W.n+W.c) Gs m.blk)
 (own:wE.ownsRow 0 205 2 (.slice (PT g) (M.l.length+1) cap) (M.l.length+1) (qap M.l++qpe m)) (A:w2.grownBy wE M.nv.ownBlock) (t:M.nv.ownBlock=some g\/w.heap.size<=g) (I:g<wE.heap.size):
 PWo (wE.setCell (AD b 2) (.slice (PT g) (M.l.length+1) cap)) b {M with nv:=.slice (PT g) (M.l.length+1) cap,l:=M.l++[m]} {W with net:=W.net++[m.g]} Gs:=by
 have R:=h.box.lt;have s2:=z.size;have S:=A.size;have u:(Value.slice (PT g) (M.l.length+1) cap).ownBlock=some g:=rfl;have J:=E.own.lt
 have F:g≠b:=by
  rcases t with e|e
  ·exact λq=>h.sb.2.2 (by rw[e,q])
  omega
 have K:∀k,k<w.heap.size->M.nv.ownBlock≠some k->wE.heap[k]?=w.heap[k]?:=λk d B=>(A.block k (by omega) (λe=>B e.symm)).trans (z.block k d);have y:∀k,k<w.heap.size->M.nv.ownBlock≠some k->k≠b->(wE.setCell (AD b 2) (.slice (PT g) (M.l.length+1) cap)).heap[k]?=w.heap[k]?:=λk d B L=>(jce _ _ _ _ (λe=>L e)).trans (K k d B)
 have v:(wE.setCell (AD b 2) (.slice (PT g) (M.l.length+1) cap)).heap.size=wE.heap.size:=by simp[World.setCell]
 have C:=h.ltF
 have p:m.blk≠b/\M.pv.ownBlock≠some m.blk/\M.cv.ownBlock≠some m.blk/\M.nv.ownBlock≠some m.blk/\(∀i,i<W.n+W.c->¬Gs i m.blk):=by
  rcases H with ⟨x,o,e⟩|e
  ·have:=h.sg x o;rw[e]at this;exact⟨this.1,this.2.1,this.2.2.1,this.2.2.2,(h.fam.free m.blk (.inr (.inr (.inr (.inr ⟨x,o,e⟩))))).2⟩
  exact⟨λq=>e (.inl (.inl q)),λq=>e (.inl (.inr (.inl q))),λq=>e (.inl (.inr (.inr (.inl q)))),λq=>e (.inl (.inr (.inr (.inr (.inl q))))),λi hi q=>e (.inr ⟨i,hi,q⟩)⟩
 have N:m.blk≠g:=by
  rcases t with e|e
  ·exact λq=>p.2.2.2.1 (by rw[e,q])
  omega
 refine⟨?_,?_,?_,?_,?_,λx o=>?_,?_,⟨h.sb.1,h.sb.2.1,λe=>?_⟩,λk=>⟨λe=>⟨(h.sr k).1 e|>.1,λa=>?_⟩,λe a=>?_⟩,λx o=>?_⟩
 ·have O:=(h.box.later z).grown A (λe=>h.sb.2.2 e.symm);exact O.set 2 _ (by simp)
 ·exact qf h.pr (λk e=>y k (h.pr.lt k e).2 ((h.sr k).1 e).2 (λq=>h.sb.1 (by rw[e,q])))
 ·exact qf h.cr (λk e=>y k (h.cr.lt k e).2 ((h.sr k).2 e) (λq=>h.sb.2.1 (by rw[e,q])))
 ·show World.ownsRow _ 0 _ 2 _ (M.l++[m]).length (qap (M.l++[m]));rw[q2d,jcl];exact qf own (λk e=>jce _ _ _ _ (λq=>F (by rw[u]at e;injection e with e;exact e.trans q)))
 ·show (M.l++[m]).map (·.g)=W.net++[m.g];rw[jdb,h.nl];rfl
 ·rcases jcf.1 o with q|q
  ·have:=h.sg x q;exact(h.gr x q).kept (y _ (C _ (.inr (.inr (.inr (.inr ⟨x,q,rfl⟩))))) this.2.2.2 this.1) (by rw[v];omega)
  rw[jcj.1 q];exact E.kept (y _ J p.2.2.2.1 p.1) (by rw[v];omega)
 ·have f:=h.fam.to (X':=qfw b M) (w':=wE.setCell (AD b 2) (.slice (PT g) (M.l.length+1) cap)) (λj k D e=>y k (h.ltG D e) (λq=>(h.fam.free k (.inr (.inr (.inr (.inl q))))).2 j D e) (λq=>(h.fam.free k (.inl q)).2 j D e)) (by rw[v];omega) (λk d=>⟨.inl d,by rw[v];have:=C k d;omega⟩);refine⟨f.is,f.apart,λk d=>?_,f.half⟩
  ·rcases d with e|e|e|e|⟨x,o,e⟩
   ·exact f.free k (.inl e)
   ·exact f.free k (.inr (.inl e))
   ·exact f.free k (.inr (.inr (.inl e)))
   ·rw[u]at e;injection e with e;subst e;rcases t with q|q
    ·exact f.free g (.inr (.inr (.inr (.inl q))))
    exact⟨by rw[v];exact I,λi hi P=>by have:=h.ltG hi P;omega⟩
   rcases jcf.1 o with q|q
   ·exact f.free k (.inr (.inr (.inr (.inr ⟨x,q,e⟩))))
   rw[jcj.1 q]at e;subst e;exact⟨by rw[v];omega,p.2.2.2.2⟩
 ·rw[u]at e;injection e with e;exact F e
 ·rw[u]at a;injection a with a;subst a;rcases t with q|q
  ·exact((h.sr g).1 e).2 q
  have:=(h.pr.lt g e).2;omega
 ·rw[u]at a;injection a with a;subst a;rcases t with q|q
  ·exact(h.sr g).2 e q
  have:=(h.cr.lt g e).2;omega
 have Q:some g≠some x.blk->(Value.slice (PT g) (M.l.length+1) cap).ownBlock≠some x.blk:=λq=>q;rcases jcf.1 o with q|q
 ·have s:=h.sg x q;refine⟨s.1,s.2.1,s.2.2.1,Q (λe=>?_)⟩;injection e with e;rcases t with r|r
  ·exact s.2.2.2 (by rw[r,e])
  have:=C x.blk (.inr (.inr (.inr (.inr ⟨x,q,rfl⟩))));omega
 rw[jcj.1 q];exact⟨p.1,p.2.1,p.2.2.1,λe=>by rw[u]at e;injection e with e;exact N e.symm⟩
theorem PWo.lostBox (h:PWo w b M W Gs) (d:Bw w w2) (x:Int):PWo (w2.setCell (AD b 3) (U x)) b M {W with lost:=x} Gs:=by
 have s2:=d.size;have a:∀k,k<w.heap.size->k≠b->(w2.setCell (AD b 3) (U x)).heap[k]?=w.heap[k]?:=λk c n=>(jce _ _ _ _ (λe=>n e)).trans (d.block k c)
 have f:(w2.setCell (AD b 3) (U x)).heap.size=w2.heap.size:=by simp[World.setCell]
 exact⟨(h.box.later d).set 3 _ (by simp),qf h.pr (λk e=>a k (h.pr.lt k e).2 (λq=>h.sb.1 (by rw[e,q]))),qf h.cr (λk e=>a k (h.cr.lt k e).2 (λq=>h.sb.2.1 (by rw[e,q]))),qf h.nr (λk e=>a k (h.nr.lt k e).2 (λq=>h.sb.2.2 (by rw[e,q]))),h.nl,λx i=>(h.gr x i).kept (a _ (h.ltF _ (.inr (.inr (.inr (.inr ⟨x,i,rfl⟩))))) (h.sg x i).1) (by rw[f];exact s2),h.fam.to (λj k l e=>a k (h.ltG l e) (λq=>(h.fam.free k (.inl q)).2 j l e)) (by rw[f];exact s2) (λk c=>⟨.inl c,by rw[f];have:=h.ltF k c;omega⟩),h.sb,h.sr,h.sg⟩
def qby (w:World) (b:Nat) (M:WoM) (Gs:Nat->Nat->Prop) (Z:Nat->Prop) (W':WoS) (w':World):Prop:=
 ∃nv' l',PWo w' b {M with nv:=nv',l:=l'} W' Gs/\(∀k,nv'.ownBlock=some k->M.nv.ownBlock=some k\/w.heap.size<=k)/\(∀x∈l',x∈M.l\/Z x.blk)/\qc (λk=>k=b\/M.nv.ownBlock=some k) w w'
theorem qby.post {w':World} {W':WoS} {Z:Nat->Prop} (h:qby w b M Gs Z W' w') (a:∀k,G k↔qmp b M (W.n+W.c) Gs k) (j:W'.n=W.n) (l:W'.c=W.c) (o:∀k,Z k->G k\/w.heap.size<=k):vh w b G W' w':=by
 obtain⟨v,y,p,r,s,d⟩:=h;refine⟨_,⟨_,Gs,p,λ_=>jdl⟩,λk f=>?_,⟨d.os,d.tape,d.output,d.size,λk f t=>d.block k f (λe=>t ((a k).2 (.inl (e.elim .inl (λq=>.inr (.inr (.inr (.inl q))))))))⟩⟩;rw[j,l]at f;rcases f with (e|e|e|e|⟨x,u,e⟩)|⟨i,hi,e⟩
 ·exact .inl ((a k).2 (.inl (.inl e)))
 ·exact .inl ((a k).2 (.inl (.inr (.inl e))))
 ·exact .inl ((a k).2 (.inl (.inr (.inr (.inl e)))))
 ·rcases r k e with q|q
  ·exact .inl ((a k).2 (.inl (.inr (.inr (.inr (.inl q))))))
  exact .inr q
 ·rcases s x u with q|q
  ·exact .inl ((a k).2 (.inl (.inr (.inr (.inr (.inr ⟨x,q,e⟩))))))
  rw[e]at q;exact o k q
 exact .inl ((a k).2 (.inr ⟨i,hi,e⟩))
theorem PWo.later (h:PWo w b M W Gs) (a:Bw w w2):PWo w2 b M W Gs:=
 ⟨h.box.later a,qf h.pr (λk e=>a.block k (h.pr.lt k e).2),qf h.cr (λk e=>a.block k (h.cr.lt k e).2),qf h.nr (λk e=>a.block k (h.nr.lt k e).2),h.nl,λm c=>(h.gr m c).kept (a.block _ (h.gr m c).own.lt) a.size,h.fam.to (λ_ k d e=>a.block k (h.ltG d e)) a.size (λk e=>⟨.inl e,jci (h.ltF k e) a.size⟩),h.sb,h.sr,h.sg⟩
theorem qby.none (h:PWo w b M W Gs) (a:Bw w w2) (Z:Nat->Prop):qby w b M Gs Z W w2:=⟨M.nv,M.l,h.later a,λ_ e=>.inl e,λ_ c=>.inl c,qc.ofBelow a⟩
end
theorem qou {b:Nat} {M:WoM} {W:WoS} {Gs:Nat->Nat->Prop} (w:World) (h:PWo w b M W Gs) (m:GrM) (E:m.Ok w) (F:(∃x∈M.l,x.blk=m.blk)\/¬qmp b M (W.n+W.c) Gs m.blk):
 Ca 144 #[PP b,.agg #[U m.g.to,.slice (PT m.blk) m.S.size m.cap]] w λe w'=>e=.returned (.tuple #[])/\qby w b M Gs (λk=>k=m.blk) (zk W m.g) w':=by
 have f:=hd3 h E F
 have V:M.l.length=W.net.length:=by rw[<-h.nl];simp
 obtain⟨H,I,i,r⟩:=qq h.nr;have X:=h.box.lt;have j:=boxed (jcc _ w) (.cells #[U m.g.to,.slice (PT m.blk) m.S.size m.cap] 205);have a:=h.box.later j;rw[i]at a;have Y:=a.cell 2 _ rfl;have Z:=a.cell 3 _ rfl;have f2:=a.free 2 (by simp);have f3:=a.free 3 (by simp);by_cases t:300<=W.net.length
 ·have q:300<=(M.l.length:Int):=by omega
  have o:Hid (zk W m.g={W with lost:=wrap64 (W.lost+1)}):=if_pos t;go_enter Tryz.func144,Tryz.ntmps144
  go_wp2_with fail
  refine bodyPost_ret (v:=.tuple #[]) (results_none rfl _ _ _) rfl ⟨rfl,?_⟩;rw[o.out];exact⟨M.nv,M.l,(f.out.1.lostBox (jcc _ w) (wrap64 (W.lost+1))).later (boxed (jcc _ _) _),λ_ e=>.inl e,λ_ p=>.inl p,(qc.setCell _ _ _ (.inl rfl)).trans (qc.ofBelow (boxed (jcc _ _) _))⟩
 have q:¬300<=(M.l.length:Int):=by omega
 have o:Hid (zk W m.g={W with net:=W.net++[m.g]}):=if_neg t
 have u:Hid (M.l.length<300):=by show _<_;omega
 obtain⟨J,hi,K,L,N⟩:=info_parts quo;have y:=(boxed j.drew (.cells #[U m.g.to,.slice (PT m.blk) m.S.size m.cap] 205));have z:=qf h.nr (λk e=>j.drew.block k (h.nr.lt k e).2);rw[i]at z;have d:=hd1 i;have O:=hd1 h.sb.2.2;go_enter Tryz.func144,Tryz.ntmps144
 go_wp2_with fail
 go_region_law (refine step_append_lies _ rfl (.tmp 21) (.tmp 23) 160 rfl 0 205 J (.agg #[U 0,.slice none 0 0]) 2 32 Tryz.underlying160 hi K L N rfl (by decide) (.slice H M.l.length I) M.l.length (qap M.l) (by simp[Act.eval]) (z.alloc _) (AD (w.heap.size+1) 0) 1 1 [U m.g.to,.slice (PT m.blk) m.S.size m.cap] (by simp[Act.eval]) rfl (qpn _ _ (by simp) [U m.g.to,.slice (PT m.blk) m.S.size m.cap] 205) (qr2 m) (by decide) (by have:=u.out;simp only[maxLen];omega) (by have:=u.out;omega) (by omega) _ rfl ?_
                intro B P wE Q s C R;have D:qd wE b _:=(a.later (boxed (jcc _ _) _).drew).grown s (λe=>O.out (by rw[d.out];exact e.symm));have e2:=D.cell 2 _ rfl
                have f2E:=D.free 2 (by simp))
 all_goals
  go_wp2_with fail
  go_end0;refine⟨rfl,?_⟩;rw[o.out];refine⟨.slice (PT B) (M.l.length+1) P,M.l++[m],f.out.1.pushed y f.out.2.1 f.out.2.2 Q (by rw[d.out];exact s) ?_ R,λk e=>?_,λx p=>?_,?_⟩
  ·rw[d.out];rcases C with e|e
   ·exact .inl e
   exact .inr (by rw[e];simp;omega)
  ·rw[d.out];have T:B=k:=jcu e;subst T;rcases C with e|e
   ·exact .inl e
   exact .inr (by rw[e];simp;omega)
  ·rcases jcf.1 p with q|q
   ·exact .inl q
   exact .inr (by rw[jcj.1 q])
  refine((qc.ofBelow y).trans (qc.grown s (λk e=>.inr (by rw[d.out];exact e)))).trans (qc.setCell _ _ _ (.inl rfl))
end
section
open Go.RowKit
section
variable {w w1 w2 w':World} {b:Nat} {M:WoM} {W W':WoS} {Gs:Nat->Nat->Prop} {Z:Nat->Prop}
theorem qby.from (a:Bw w w1) (h:qby w1 b M Gs Z W' w'):qby w b M Gs Z W' w':=by
 obtain⟨c,d,f,g,i,j⟩:=h;exact⟨c,d,f,λk e=>(g k e).elim .inl (λq=>.inr (jcn a.size q)),i,(qc.ofBelow a).trans j⟩
theorem qby.weak {a:Nat->Prop} (h:qby w b M Gs Z W' w') (c:∀k,Z k->a k):qby w b M Gs a W' w':=by
 obtain⟨d,e,f,g,i,j⟩:=h;exact⟨d,e,f,g,λx l=>(i x l).elim .inl (λq=>.inr (c _ q)),j⟩
theorem qby.size (h:qby w b M Gs Z W' w'):w.heap.size<=w'.heap.size:=by
 obtain⟨_,_,_,_,_,a⟩:=h;exact a.size
theorem qby.block (h:qby w b M Gs Z W' w') {k:Nat} (a:k<w.heap.size) (c:k≠b) (d:M.nv.ownBlock≠some k):w'.heap[k]?=w.heap[k]?:=by
 obtain⟨_,_,_,_,_,f⟩:=h;exact f.block k a (λe=>e.elim c d)
theorem qby.next {i:WoS} (h:qby w b M Gs Z W' w1) (a:∀f g,PWo w1 b {M with nv:=f,l:=g} W' Gs->qby w1 b {M with nv:=f,l:=g} Gs Z i w'):qby w b M Gs Z i w':=by
 obtain⟨f,g,m,j,n,c⟩:=h;obtain⟨o,p,r,t,u,d⟩:=a f g m;have s:=c.size;refine⟨o,p,r,λk e=>?_,λx v=>?_,?_⟩
 ·rcases t k e with q|q
  ·exact j k q
  exact .inr (by omega)
 ·rcases u x v with q|q
  ·exact n x q
  exact .inr q
 refine⟨d.os.trans c.os,d.tape.trans c.tape,d.output.trans c.output,jcn s d.size,λk y a=>?_⟩;refine(d.block k (by omega) (λe=>?_)).trans (c.block k y a);rcases e with e|e
 ·exact a (.inl e)
 rcases j k e with q|q
 ·exact a (.inr q)
 omega
end
theorem qoq {b:Nat} {M:WoM} {W:WoS} {Gs:Nat->Nat->Prop} (o:Nat) (c d wall f j l m n:Int) (ws:List Wr) (a:Option Addr) (cap:Nat) (w:World) (h:PWo w b M W Gs) (u:qr w a cap ws) (v:jt c d wall f j l m n ws=true):
 Ca 208 #[PP b,U o,.agg (List.toArray (T9 c d wall f j l m n a ws.length cap))] w λe w'=>e=.returned (.tuple #[])/\qby w b M Gs (λk=>w.heap.size<=k) (zk W ⟨o,.tx ⟨c,d,wall,f,j,l,m,n,ws⟩⟩) w':=by
 have p:=hd1 h;have r:=boxed (jcc _ w) (.cells (List.toArray (T9 c d wall f j l m n a ws.length cap)) 102);have x:=qw5 (u.later r) v;go_enter Tryz.func208,Tryz.ntmps208
 go_wp2_with fail
 refine x.mono ?_;rintro e w2 ⟨S,g,s,rfl,⟨y,_⟩,z,O,B⟩;have t:=qa r B;have C:=jcn r.size O.base;have D:=p.out.later t
 have E:Hid (Ca 144 #[PP b,.agg #[U o,.slice (PT g) S.size s]] w2 λe w'=>e=.returned (.tuple #[])/\qby w2 b M Gs (λk=>k=g) (zk W ⟨o,.tx ⟨c,d,wall,f,j,l,m,n,ws⟩⟩) w'):=
  qou w2 D ⟨⟨o,.tx ⟨c,d,wall,f,j,l,m,n,ws⟩⟩,g,s,S⟩ ⟨O.mono (jcw _),z,y⟩ (.inr (λe=>by
   rcases e with q|⟨i,hi,q⟩
   ·have:g<w.heap.size:=p.out.ltF g q;omega
   have:g<w.heap.size:=p.out.ltG hi q
   omega))
 go_wp2_with fail
 refine E.out.mono ?_;rintro e G ⟨rfl,F⟩
 go_wp2_with fail
 go_end0;exact⟨rfl,(F.from t).weak (λk e=>by rw[e];exact C)⟩
theorem q5o {b:Nat} {M:WoM} {W:WoS} {Gs:Nat->Nat->Prop} (c d wall f g i j o:Int) (ws:List Wr) (a:Option Addr) (cap:Nat) (w:World) (h:PWo w b M W Gs) (Q:W.n<=4) (R:qr w a cap ws) (S:∀k D,ws≠[]->a=some (AD k D)->k≠b/\M.nv.ownBlock≠some k) (V:jt c d wall f g i j o ws=true):
 Ca 151 #[PP b,.agg (List.toArray (T9 c d wall f g i j o a ws.length cap))] w λe w'=>e=.returned (.tuple #[])/\qby w b M Gs (λk=>w.heap.size<=k) (qam ⟨c,d,wall,f,g,i,j,o,ws⟩ W.n W) w':=by
 have u:=hd4 h R S V;have E:=boxed (jcc _ w) (.cells (List.toArray (T9 c d wall f g i j o a ws.length cap)) 102);have F:=qd.new (w:=w) (T:=102) (T9 c d wall f g i j o a ws.length cap) rfl;obtain⟨pa,pc,X,r⟩:=qq h.pr;have J:=h.box.later E;rw[X]at J;have Y:=J.cell 0 _ rfl;have hlt:=h.box.lt;obtain⟨w1,C⟩:∃w1,w.alloc (.cells (List.toArray (T9 c d wall f g i j o a ws.length cap)) 102)=w1:=⟨_,rfl⟩
 have p:Hid (Bw w w1/\qd w1 w.heap.size (T9 c d wall f g i j o a ws.length cap)/\w.heap.size<w1.heap.size):=by
  rw[C]at E
  have K:qd w1 w.heap.size (T9 c d wall f g i j o a ws.length cap):=by rw[<-C];exact F
  exact⟨E,K,K.lt⟩
 have HN:=hd1 Q;rw[C]at Y;go_enter Tryz.func151,Tryz.ntmps151
 go_wp2_with fail
 try rw[C]
 go_loopw [10] (λiv wr=>∃(k:Nat) (z:Int),k<=W.n/\z=k/\iv=U z/\Hid (qby w1 b M Gs (λq=>w.heap.size<=q) (qam ⟨c,d,wall,f,g,i,j,o,ws⟩ k W) wr)) (λiv _=>W.n-(intOf iv).toNat)
 case atStart=>exact⟨0,0,by omega,rfl,rfl,qby.none (u.out.1.later p.out.1) (jcc _ _) _⟩
 obtain⟨k,z,hk,hz,rfl,v⟩:=hrel;have t:=hd1 hz;by_cases hlt2:k<W.n
 ·have g1:z<(W.n:Int):=by omega
  have g3:0<=z:=by omega
  have g4:z<4:=by have:=HN.out;omega
  have L:w.heap.size≠b/\M.nv.ownBlock≠some w.heap.size:=⟨by omega,λe=>by have:=(u.out.1.nr.lt _ e).2;omega⟩;have F:=p.out.2.1.kept (v.out.block p.out.2.2 L.1 L.2) v.out.size;obtain⟨x0,x1,x2,x3,x4,x5,x6,x7,x8⟩:=F.c9;by_cases N:z=c
  ·have G:Hid (qam ⟨c,d,wall,f,g,i,j,o,ws⟩ (k+1) W=qam ⟨c,d,wall,f,g,i,j,o,ws⟩ k W):=if_pos (t.out.symm.trans N)
   go_wp2_with fail
   go_roundw
   case rel=>exact⟨k+1,z+1,by omega,by have:=t.out;omega,by go_num,by show qby _ _ _ _ _ _ _;rw[G.out];exact v.out⟩
   simp[intOf];have:=t.out;omega
  have G:Hid (qam ⟨c,d,wall,f,g,i,j,o,ws⟩ (k+1) W=zk (qam ⟨c,d,wall,f,g,i,j,o,ws⟩ k W) ⟨k,.tx ⟨c,d,wall,f,g,i,j,o,ws⟩⟩):=if_neg (λe=>N (t.out.trans e));obtain⟨nv',l',h1,O,h3,y⟩:=v.out
  have hWr:qr wr a cap ws:=qr.kept (m:=⟨⟨c,d,wall,f,g,i,j,o,ws⟩,a,cap⟩) (u.out.2.1.later p.out.1) (λq e=>by
   have lq:=qr.blk_lt (m:=⟨⟨c,d,wall,f,g,i,j,o,ws⟩,a,cap⟩) u.out.2.1 q e;obtain⟨e1,D,e2⟩:=e;have:=u.out.2.2.1 q D e1 e2
   exact v.out.block (jci lq p.out.1.size) this.1 this.2)
  have P:=qoq k c d wall f g i j o ws a cap wr h1 hWr u.out.2.2.2;rw[<-t.out]at P;have HX:Hid (∀nv l,PWo wr b {M with nv:=nv,l:=l} (qam ⟨c,d,wall,f,g,i,j,o,ws⟩ k W) Gs->True):=λ_ _ _=>trivial
  have SY:Hid (Ca 208 #[PP b,U z,.agg (List.toArray (T9 c d wall f g i j o a ws.length cap))] wr λe w'=>e=.returned (.tuple #[])/\qby w1 b M Gs (λq=>w.heap.size<=q) (zk (qam ⟨c,d,wall,f,g,i,j,o,ws⟩ k W) ⟨k,.tx ⟨c,d,wall,f,g,i,j,o,ws⟩⟩) w'):=P.mono λe w' ⟨he,H⟩=>⟨he,by
   obtain⟨nv2,l2,g1',g2',g3',B⟩:=H;have s:=y.size;have s1:=p.out.1.size;refine⟨nv2,l2,g1',λq e=>?_,λx hx=>?_,?_⟩
   ·rcases g2' q e with r|r
    ·exact O q r
    exact .inr (by omega)
   ·rcases g3' x hx with r|r
    ·exact h3 x r
    exact .inr (by omega)
   refine⟨B.os.trans y.os,B.tape.trans y.tape,B.output.trans y.output,jcn s B.size,λq hq I=>?_⟩;refine(B.block q (by omega) (λe=>?_)).trans (y.block q hq I);rcases e with e|e
   ·exact I (.inl e)
   rcases O q e with r|r
   ·exact I (.inr r)
   omega⟩
  go_wp2_with fail
  refine SY.out.mono ?_;rintro e w3 ⟨rfl,H⟩
  go_wp2_with fail
  go_roundw
  case rel=>exact⟨k+1,z+1,by omega,by have:=t.out;omega,by go_num,by show qby _ _ _ _ _ _ _;rw[G.out];exact H⟩
  simp[intOf];have:=t.out;omega
 have g1:¬z<(W.n:Int):=by omega
 have e:k=W.n:=by omega
 subst e
 go_wp2_with fail
 go_end0;exact⟨rfl,v.out.from p.out.1⟩
end
section
open Go.RowKit
def qep (w:World) (b:Nat) (wv:Value) (s':qy) (w':World):Prop:=
 ∃wv',qgs w' b wv' s'/\(∀k,wv'.ownBlock=some k->wv.ownBlock=some k\/w.heap.size<=k)/\qc (λk=>k=b\/wv.ownBlock=some k) w w'
variable {w w':World} {b:Nat} {wv:Value} {s:qy}
theorem qep.same (h:qgs w b wv s) (a:Bw w w'):qep w b wv s w':=⟨wv,h.later a,λ_ e=>.inl e,qc.ofBelow a⟩
theorem qvt {a:World} {d:qy} (c:Bw w a) (g:∀k,k≠b->w'.heap[k]?=a.heap[k]?) (h:w'.os=a.os) (i:w'.tape=a.tape) (j:w'.output=a.output) (l:a.heap.size<=w'.heap.size) (m:qd w' b (jr d (.slice none 0 0))) (f:d.ws=[]):qep w b wv d w':=by
 refine⟨.slice none 0 0,⟨m,by rw[f];exact jcx _ _ _ _,by simp[Value.ownBlock]⟩,λk e=>by simp[Value.ownBlock]at e,⟨h.trans c.os,i.trans c.tape,j.trans c.output,jcn c.size l,λk n f=>?_⟩⟩;have o:k≠b:=λe=>f (.inl e);exact(g k o).trans (c.block k n)
theorem q9v {w2:World} {c:Value} (d:Bw w w2) (B:qd w2 b (jr s c)) (a0 a1 a2 a3:Int):
 qep w b wv {s with opn:=true,s0:=a0,s1:=a1,s2:=a2,s3:=a3,ws:=[]} ((((((w2.setCell (AD b 8) (.bool true)).setCell (AD b 4) (U a0)).setCell (AD b 5) (U a1)).setCell (AD b 6) (U a2)).setCell (AD b 7) (U a3)).setCell (AD b 9) (.slice none 0 0)):=by
 have e:=B.set 8 (.bool true) (by simp[jr]);have f:=e.set 4 (U a0) (by simp[jr]);have g:=f.set 5 (U a1) (by simp[jr]);have h:=g.set 6 (U a2) (by simp[jr]);have i:=h.set 7 (U a3) (by simp[jr]);have j:=i.set 9 (.slice none 0 0) (by simp[jr]);refine qvt d (λk a=>?_) ?_ ?_ ?_ ?_ j rfl
 ·rw[jce _ _ _ _ a,jce _ _ _ _ a,jce _ _ _ _ a,jce _ _ _ _ a,jce _ _ _ _ a,jce _ _ _ _ a]
 ·simp only[World.setCell]
 ·simp only[World.setCell]
 ·simp only[World.setCell]
 simp only[World.setCell,Array.size_modify,jcd]
end
section
open Go.RowKit
def qeu (b:Nat) (S:qe) (Y:Nat->Prop):qfr:=⟨λw G=>PS w b G S/\∀k,Y k->¬G k,λ_ _ h=>h.1.lt,λ_ _ _ h a c=>⟨h.1.kept a c,h.2⟩⟩
def q33 (w:World) (b bx:Nat) (G Gx:Nat->Prop) (S:qe) (s:qy) (now:Int) (e:Ending) (w':World):Prop:=
 ∃m:TxM,e=.returned (.tuple #[txV m,jc (qeg S s now)])/\m.t=qce S s now/\Hid (qr w' m.wa m.wc m.t.ws/\qfx (qix b (j0 S s now)) (qeu bx (qcc S s now) m.blk) w G Gx m.blk w')
section
variable {p:qfr} {w w':World} {G Gx Y Z:Nat->Prop} {bx:Nat} {S:qe}
theorem qtr (h:qfx p (qfp bx S) w G Gx Z w') (b:∀k,¬Y k):qfx p (qeu bx S Y) w G Gx Y w':=by
 obtain⟨c,d,p1,e,p2,f,g,_,i⟩:=h;exact⟨c,d,p1,⟨e,λk a=>absurd a (b k)⟩,p2,f,g,λk a=>absurd a (b k),i⟩
theorem q74 (h:qfx p (qeu bx S Y) w G Gx Z w'):qfx p (qfp bx S) w G Gx NoY w':=by
 obtain⟨a,b,p1,c,p2,d,e,_,f⟩:=h;exact⟨a,b,p1,c.1,p2,d,e,λk g=>g.elim,f⟩
end
end
section
open Go.RowKit
variable {w w':World} {G:Nat->Prop}
section
variable {p q:qfr} {w wA wB wC wD wF:World} {G Gx Y N:Nat->Prop}
theorem qz8 (i:∀k,G k->k<w.heap.size) (j:∀k,G k->¬Gx k) (a:Bw w wA) (l:∀k,N k->w.heap.size<=k/\k<wA.heap.size) (m:qbi q wA Gx wB) (d:qc N wB wC):(∀k,G k->wC.heap[k]?=w.heap[k]?)/\w.heap.size<=wC.heap.size:=by
 obtain⟨o,r,t,c⟩:=m;refine⟨λk f=>?_,jcn a.size (jcn c.size d.size)⟩;have g:=i k f;have h:=jci g a.size;exact(d.block k (jci h c.size) (λe=>by have:=(l k e).1;omega)).trans ((c.block k h (j k f)).trans (a.block k g))
theorem qid (l:∀k,G k->k<w.heap.size) (E:∀k,Gx k->k<w.heap.size) (F:∀k,G k->¬Gx k) (g:Bw w wA) (m:∀k,N k->w.heap.size<=k/\k<wA.heap.size) (H:qbi q wA Gx wB) (o:∀k,Y k->wA.heap.size<=k/\k<wB.heap.size)
 (d:qc N wB wC) (I:qbi p wC G wD) (c:qc N wD wF):qfx p q w G Gx Y wF/\∀k,Y k->wF.heap[k]?=wB.heap[k]?:=by
 obtain⟨t,v,u,i⟩:=H;obtain⟨x,p1,ps,f⟩:=I;have P:=g.size;have Q:=i.size;have J:=d.size;have K:=f.size;have z:=c.size;have r:=λk a=>q.lt _ _ v k a
 have A:∀k,t k->¬N k:=λk a e=>by
  have:=m k e;rcases u k a with h|h
  ·have:=E k h;omega
  omega
 have B:∀k,t k->¬G k:=λk a e=>by
  rcases u k a with h|h
  ·exact F k e h
  have:=l k e;omega
 have L:∀k,x k->¬N k:=λk a e=>by
  have:=m k e;rcases ps k a with h|h
  ·have:=l k h;omega
  omega
 refine⟨⟨x,t,?_,?_,λk a=>?_,λk a=>?_,λk a C=>?_,λk a=>⟨?_,?_,λe=>?_⟩,⟨?_,?_,?_,?_,λk a D=>?_⟩⟩,λk a=>?_⟩
 ·exact p.kept _ _ _ p1 (λk a=>c.block k (p.lt _ _ p1 k a) (L k a)) z
 ·have M:=q.kept _ _ _ v (λk a=>d.block k (r k a) (A k a)) J;have O:=q.kept _ _ _ M (λk a=>f.block k (by have:=r k a;omega) (B k a)) K;exact q.kept _ _ _ O (λk a=>c.block k (by have:=r k a;omega) (A k a)) z
 ·rcases ps k a with h|h
  ·exact .inl h
  exact .inr (by omega)
 ·rcases u k a with h|h
  ·exact .inl h
  exact .inr (by omega)
 ·rcases ps k a with h|h
  ·exact B k C h
  have:=r k C;omega
 ·have:=(o k a).1;omega
 ·have:=(o k a).2;omega
 ·have:=o k a;rcases ps k e with h|h
  ·have:=l k h;omega
  omega
 ·exact c.os.trans (f.os.trans (d.os.trans (i.os.trans g.os)))
 ·exact c.tape.trans (f.tape.trans (d.tape.trans (i.tape.trans g.tape)))
 ·exact c.output.trans (f.output.trans (d.output.trans (i.output.trans g.output)))
 ·omega
 ·have j:¬N k:=λe=>by have:=(m k e).1;omega
  exact(c.block k (by omega) j).trans ((f.block k (by omega) (λe=>D (.inl e))).trans ((d.block k (by omega) j).trans ((i.block k (by omega) (λe=>D (.inr e))).trans (g.block k a))))
 have y:=o k a
 have j:¬N k:=λe=>by have:=(m k e).2;omega
 exact(c.block k (by omega) j).trans ((f.block k (by omega) (λe=>by have:=l k e;omega)).trans (d.block k (by omega) j))
theorem qod {p q:qfr} {Gx:Nat->Prop} (d:p.is w G) (e:q.is w Gx) (f:∀k,G k->¬Gx k) (c:Bw w w') (Y:Nat->Prop) (g:∀k,¬Y k):qfx p q w G Gx Y w':=
 ⟨G,Gx,p.kept _ _ _ d (λk a=>c.block k (p.lt _ _ d k a)) c.size,q.kept _ _ _ e (λk a=>c.block k (q.lt _ _ e k a)) c.size,λ_ a=>.inl a,λ_ a=>.inl a,f,λk a=>absurd a (g k),qc.ofBelow c⟩
end
variable {b:Nat}
theorem qaz {F:Nat->Prop} {W:World} (h:qc F w W) (a:F b) (x0 x1 x2 x3 c d e f:Int) (v:Value):qc F w (js W b x0 x1 x2 x3 c d e f v):=
 ((((((((h.trans (qc.setCell _ _ _ a)).trans (qc.setCell _ _ _ a)).trans (qc.setCell _ _ _ a)).trans (qc.setCell _ _ _ a)).trans (qc.setCell _ _ _ a)).trans (qc.setCell _ _ _ a)).trans (qc.setCell _ _ _ a)).trans (qc.setCell _ _ _ a)).trans (qc.setCell _ _ _ a)
def qnk (n:Nat) (x:Int) (s:qy):qy:={s with p0:=if n=0 then x else s.p0,p1:=if n=1 then x else s.p1,p2:=if n=2 then x else s.p2,p3:=if n=3 then x else s.p3}
variable {s:qy} {wv:Value} {n:Int}
theorem q86 (c:0<=n) (d:n<=3):(jr s wv)[n.toNat]?=some (U (qp n s.p0 s.p1 s.p2 s.p3)):=by
 have a:n=0\/n=1\/n=2\/n=3:=by omega
 rcases a with rfl|rfl|rfl|rfl<;>rfl
theorem q5u {a:Value} (d:0<=n) (e:n<=3):(yj s a)[n.toNat]?=some (U (qp n s.p0 s.p1 s.p2 s.p3)):=by
 have c:n=0\/n=1\/n=2\/n=3:=by omega
 rcases c with rfl|rfl|rfl|rfl<;>rfl
theorem qlh {a c:Int} (e:0<=a) (f:a<=3):atLeast a c s=qnk a.toNat (jd (qp a s.p0 s.p1 s.p2 s.p3) c) s:=by
 have d:a=0\/a=1\/a=2\/a=3:=by omega
 rcases d with rfl|rfl|rfl|rfl<;>rfl
theorem qwy {a c:Int} (d:0<=a) (e:a<=3) (h:¬qp a s.p0 s.p1 s.p2 s.p3<c):atLeast a c s=s:=by
 have f:a=0\/a=1\/a=2\/a=3:=by omega
 rw[qlh d e,qh1 h]
 rcases f with rfl|rfl|rfl|rfl<;>rfl
theorem qgs.keptB (h:qgs w b wv s) (a:∀k,(k=b\/wv.ownBlock=some k)->w'.heap[k]?=w.heap[k]?) (c:w.heap.size<=w'.heap.size):qgs w' b wv s:=⟨h.box.kept (a b (.inl rfl)) c,qf h.row (λk e=>a k (.inr e)),h.nb⟩
variable {w1 w2:World}
theorem qep.after (h:qep w b wv s w1) (a:Bw w1 w2):qep w b wv s w2:=by
 obtain⟨c,d,e,f⟩:=h;exact⟨c,d.later a,e,f.trans (qc.ofBelow a)⟩
theorem qep.past (h:qep w b wv s w1) {n:Nat} (c:n<4) (x:Int):qep w b wv (qnk n x s) (w1.setCell (AD b n) (U x)):=by
 obtain⟨d,a,f,g⟩:=h;have R:=a.box.set n (U x) (by simp[jr];omega);refine⟨d,⟨?_,qf a.row (λk e=>jce _ _ _ _ (λi=>a.nb (by have j:k=b:=i;rw[<-j];exact e))),a.nb⟩,f,g.trans (qc.setCell _ _ _ (.inl rfl))⟩
 match n,c with
 |0,_=>exact R
 |1,_=>exact R
 |2,_=>exact R
 |3,_=>exact R
theorem qc8.after (h:qc8 w b G s w1) (a:Bw w1 w2):qc8 w b G s w2:=by
 obtain⟨c,d,e,f⟩:=h;exact⟨c,d.later a,e,f.trans (qc.ofBelow a)⟩
theorem qc8.past (a:G b) (h:qc8 w b G s w1) {n:Nat} (c:n<4) (x:Int):qc8 w b G (qnk n x s) (w1.setCell (AD b n) (U x)):=by
 obtain⟨g,d,e,f⟩:=h;exact q7c d e a f n c x
theorem qk4 (w:World):qr w tx0.wa tx0.wc tx0.t.ws:=⟨jcd _,by decide,.inl rfl⟩
theorem qfb (k:Nat):¬tx0.blk k:=λh=>absurd rfl h.1
variable {S:qe}
theorem qjx {now:Int} (e:s.opn=true) (a:(jh s.ws).length≠0):
 qeg S s now=qfl S now s.s0 s.s1 s.s2 s.s3 (jh s.ws)/\qce S s now=qha S now s.s0 s.s1 s.s2 s.s3 (jh s.ws)/\qcc S s now=qf3 S now s.s0 s.s1 s.s2 s.s3 (jh s.ws):=by
 have c:¬s.opn=false:=by rw[e];decide
 have d:¬(s.opn=false\/(jh s.ws).length=0):=by rintro (h|h);exact c h;exact a h
 exact⟨by unfold qeg;rw[if_neg c,if_neg a],by unfold qce;rw[if_neg d],by unfold qcc;rw[if_neg d]⟩
theorem qml {now:Int} (c:s.opn=true) (a:(jh s.ws).length=0):
 qeg S s now=0/\qce S s now=tx0.t/\qcc S s now=S/\j0 S s now=qc3 s:=by
 have d:¬s.opn=false:=by rw[c];decide
 have E:qeg S s now=0:=by unfold qeg;rw[if_neg d,if_pos a]
 exact⟨E,by unfold qce;rw[if_pos (.inr a)];rfl,by unfold qcc;rw[if_pos (.inr a)],by unfold j0;rw[if_neg (by rw[E];decide),if_pos a]⟩
theorem qmm {now:Int} (a:s.opn=false):
 qeg S s now=6/\qce S s now=tx0.t/\qcc S s now=S/\j0 S s now=s:=by
 have E:qeg S s now=6:=by unfold qeg;rw[if_pos a]
 exact⟨E,by unfold qce;rw[if_pos (.inl a)];rfl,by unfold qcc;rw[if_pos (.inl a)],by unfold j0;rw[if_pos (by rw[E];decide)]⟩
theorem qp7 {now:Int} (c:s.opn=true) (d:(jh s.ws).length≠0) (a:qfl S now s.s0 s.s1 s.s2 s.s3 (jh s.ws)≠0):j0 S s now=s/\qf3 S now s.s0 s.s1 s.s2 s.s3 (jh s.ws)=S/\qha S now s.s0 s.s1 s.s2 s.s3 (jh s.ws)=tx0.t:=by
 refine⟨by unfold j0;rw[if_pos (by rw[(qjx c d).1];exact a)],by unfold qf3;rw[if_neg a],by unfold qha;rw[if_neg a];rfl⟩
theorem qrv {now:Int} (d:s.opn=true) (a:(jh s.ws).length≠0) (c:qfl S now s.s0 s.s1 s.s2 s.s3 (jh s.ws)=0):j0 S s now=atLeast (qha S now s.s0 s.s1 s.s2 s.s3 (jh s.ws)).site (qha S now s.s0 s.s1 s.s2 s.s3 (jh s.ws)).seq (qc3 s)/\(qha S now s.s0 s.s1 s.s2 s.s3 (jh s.ws)).site=S.id:=by
 have y:=qjx (S:=S) (now:=now) d a;refine⟨by unfold j0;rw[if_neg (by rw[y.1,c];decide),if_neg a,y.2.1],by unfold qha;rw[if_pos c];rfl⟩
end
section
open Go.RowKit
section
variable {w w':World} {n o:Nat} {ps ps':Nat->qfr} {Gs:Nat->Nat->Prop} {X:Nat->Prop}
theorem zh.step2X (h:zh w n ps Gs X o NoY) {i j:Nat} (hi:i<n) (C:j<n) {p q:qfr} {Y:Nat->Prop} (P:qfx p q w (Gs i) (Gs j) Y w') (Q:∀y,q.is w' y->∀k,Y k->¬y k) (R:ps' i=p) (S:ps' j=q) (T:∀m,m<n->m≠i->m≠j->ps' m=ps m):∃H,zh w' n ps' H X o NoY/\(∀m k,H m k->Gs m k\/w.heap.size<=k)/\jg X w w'/\qc (λk=>Gs i k\/Gs j k) w w'/\∀m k,m<n->Y k->w.heap.size<=k/\k<w'.heap.size/\¬H m k:=by
 obtain⟨D,y,p1,N,p2,I,O,E,u⟩:=P;refine⟨λm=>if m=i then D else if m=j then y else Gs m,⟨λm s=>?_,λa b k J K L c r=>?_,λk c=>⟨jci (h.free k c).1 u.size,λm s d=>?_⟩,λk c=>c.elim⟩,λm k c=>?_,⟨u.os,u.tape,u.output,u.size,λk c=>u.block k (h.free k c).1 (λe=>e.elim ((h.free k c).2 i hi) ((h.free k c).2 j C))⟩,u,λm k s c=>⟨(E k c).1,(E k c).2.1,λd=>?_⟩⟩
 ·by_cases g:m=i
  ·rw[if_pos g,g,R];exact p1
  by_cases l:m=j
  ·rw[if_neg g,if_pos l,l,S];exact N
  rw[if_neg g,if_neg l,T m s g l]
  exact(ps m).kept _ _ _ (h.is m s) (λk c=>u.block k ((ps m).lt _ _ (h.is m s) k c) (λe=>by
   rcases e with e|e
   ·exact h.apart m i k s hi g c e
   exact h.apart m j k s C l c e)) u.size
 ·have F:∀m,m<n->m≠i->m≠j->Gs m k->¬D k/\¬y k:=λm s g l d=>by
   have V:=(ps m).lt _ _ (h.is m s) k d
   constructor
   ·intro e;rcases p2 k e with t|t
    ·exact h.apart m i k s hi g d t
    omega
   intro e;rcases I k e with t|t
   ·exact h.apart m j k s C l d t
   omega
  by_cases z:a=i
  ·rw[if_pos z]at c;have v:b≠i:=λe=>L (z.trans e.symm);rw[if_neg v]at r;by_cases x:b=j
   ·rw[if_pos x]at r;exact O k c r
   rw[if_neg x]at r;exact(F b K v x r).1 c
  rw[if_neg z]at c;by_cases A:a=j
  ·rw[if_pos A]at c;have x:b≠j:=λe=>L (A.trans e.symm);by_cases v:b=i
   ·rw[if_pos v]at r;exact O k r c
   rw[if_neg v,if_neg x]at r;exact(F b K v x r).2 c
  rw[if_neg A]at c;by_cases v:b=i
  ·rw[if_pos v]at r;exact(F a J z A c).1 r
  rw[if_neg v]at r;by_cases x:b=j
  ·rw[if_pos x]at r;exact(F a J z A c).2 r
  rw[if_neg x]at r;exact h.apart a b k J K L c r
 ·have f:=h.free k c;by_cases g:m=i
  ·rw[if_pos g]at d;rcases p2 k d with t|t
   ·exact f.2 i hi t
   have:=f.1;omega
  rw[if_neg g]at d;by_cases l:m=j
  ·rw[if_pos l]at d;rcases I k d with t|t
   ·exact f.2 j C t
   have:=f.1;omega
  rw[if_neg l]at d;exact f.2 m s d
 ·have c:(if m=i then D else if m=j then y else Gs m) k:=c;by_cases g:m=i
  ·rw[if_pos g]at c;rw[g];exact p2 k c
  rw[if_neg g]at c;by_cases l:m=j
  ·rw[if_pos l]at c;rw[l];exact I k c
  rw[if_neg l]at c;exact .inl c
 have d:(if m=i then D else if m=j then y else Gs m) k:=d;by_cases g:m=i
 ·rw[if_pos g]at d;exact(E k c).2.2 d
 rw[if_neg g]at d;by_cases l:m=j
 ·rw[if_pos l]at d;exact Q y N k c d
 rw[if_neg l]at d;have:=(ps m).lt _ _ (h.is m s) k d;have:=(E k c).1;omega
end
def wcE (W:WoS) (i:Nat):Int:=qeg (W.S (W.at_ i)) (W.ses i) (W.wall (W.at_ i))
def wcT (W:WoS) (i:Nat):TxP:=qce (W.S (W.at_ i)) (W.ses i) (W.wall (W.at_ i))
def qd4 (W:WoS) (i:Nat):WoS:=vf (setSite W (W.at_ i) (qcc (W.S (W.at_ i)) (W.ses i) (W.wall (W.at_ i)))) i (j0 (W.S (W.at_ i)) (W.ses i) (W.wall (W.at_ i)))
def wcW (W:WoS) (i:Nat):WoS:=if 0<(wcT W i).seq then qam (wcT W i) W.n (qd4 W i)else qd4 W i
def q9n (w:World) (b:Nat) (G:Nat->Prop) (W:WoS) (i:Nat) (e:Ending) (w':World):Prop:=
 ∃m:TxM,e=.returned (.tuple #[txV m,jc (wcE W i)])/\m.t=wcT W i/\Hid (qr w' m.wa m.wc m.t.ws/\∃G',PW w' b G' (wcW W i)/\(∀k,G' k->G k\/w.heap.size<=k)/\qc G w w'/\∀k,m.blk k->w.heap.size<=k/\¬G' k)
theorem qvj {S:qe} {s:qy} {now:Int} (h:qeg S s now≠0):qce S s now=tx0.t/\qcc S s now=S/\j0 S s now=s:=by
 cases ho:s.opn with
 |false=>
  have:=qmm (S:=S) (now:=now) ho;exact⟨this.2.1,this.2.2.1,this.2.2.2⟩
 |true=>
  by_cases a:(jh s.ws).length=0
  ·exact absurd (qml (S:=S) (now:=now) ho a).1 h
  have y:=qjx (S:=S) (now:=now) ho a;rw[y.1]at h;have b:=qp7 (S:=S) (now:=now) ho a h;exact⟨y.2.1.trans b.2.2,y.2.2.trans b.2.1,b.1⟩
variable {W1:WoS} {B:Nat}
section
variable {w wA wB wC wD:World} {b:Nat} {G Y:Nat->Prop} {M:WoM} {W W':WoS} {Gs:Nat->Nat->Prop} {i:Nat}
theorem PWo.com (h:PWo w b M W Gs) (hi:i<W.c) (u:W.at_ i<W.n) (l:Bw w wA) {S':qe} {a:qy} (v:qfx (qix (M.bs i) a) (qeu (M.bp (W.at_ i)) S' Y) wA (Gs (W.n+i)) (Gs (W.at_ i)) Y wB) (p:Bw wB wC):
 ∃d,PWo wC b M (vf (setSite W (W.at_ i) S') i a) d/\(∀m k,d m k->Gs m k\/wA.heap.size<=k)/\qc (λk=>Gs (W.n+i) k\/Gs (W.at_ i) k) w wC/\∀m k,m<W.n+W.c->Y k->wA.heap.size<=k/\k<wB.heap.size/\¬d m k:=by
 have r:=h.later l
 obtain⟨d,f,g,x,y,z⟩:=r.fam.step2X (ps':=λm=>if m=W.at_ i then qeu (M.bp (W.at_ i)) S' Y else qci M (vf (setSite W (W.at_ i) S') i a) m) (i:=W.n+i) (j:=W.at_ i) (by omega) (by omega) v (λ_ q=>q.2) (by
  show (if W.n+i=W.at_ i then _ else _)=_;rw[if_neg (by omega)];show (if W.n+i<W.n then _ else _)=_;rw[if_neg (by omega)];show qix (M.bs (W.n+i-W.n)) (jj W.ses i a (W.n+i-W.n))=_
  rw[show W.n+i-W.n=i by omega,qt]) (by show (if W.at_ i=W.at_ i then _ else _)=_;rw[if_pos rfl]) (λm s D t=>by
  show (if m=W.at_ i then _ else _)=_;rw[if_neg t];show (if m<W.n then qfp (M.bp m) (jj W.S (W.at_ i) S' m)else qix (M.bs (m-W.n)) (jj W.ses i a (m-W.n)))=(if m<W.n then _ else _);by_cases q:m<W.n
  ·rw[if_pos q,if_pos q,yq _ _ t]
  rw[if_neg q,if_neg q,yq _ _ (by omega)])
 have A:zh wB (W.n+W.c) (qci M (vf (setSite W (W.at_ i) S') i a)) d (qfw b M) (W.n+W.c) NoY:=by
  refine⟨λm s=>?_,f.apart,f.free,f.half⟩;have:=f.is m s;by_cases q:m=W.at_ i
  ·have e:(if m=W.at_ i then qeu (M.bp (W.at_ i)) S' Y else qci M (vf (setSite W (W.at_ i) S') i a) m)=qeu (M.bp (W.at_ i)) S' Y:=if_pos q;rw[e]at this
   have C:qci M (vf (setSite W (W.at_ i) S') i a) m=qfp (M.bp (W.at_ i)) S':=by
        rw[q];show (if W.at_ i<W.n then qfp (M.bp (W.at_ i)) (jj W.S (W.at_ i) S' (W.at_ i))else _)=_;rw[if_pos u,qt]
   rw[C];exact this.1
  have e:(if m=W.at_ i then qeu (M.bp (W.at_ i)) S' Y else qci M (vf (setSite W (W.at_ i) S') i a) m)=qci M (vf (setSite W (W.at_ i) S') i a) m:=if_neg q;rw[e]at this;exact this
 exact⟨d,(r.keep x A rfl rfl rfl rfl rfl rfl).later p,g,((qc.ofBelow l).trans y).trans (qc.ofBelow p),z⟩
theorem PWo.told (h:PWo w b M W Gs) (d:∀k,G k↔qmp b M (W.n+W.c) Gs k) (hi:i<W.c) (K:W.at_ i<W.n) {f:Nat->Nat->Prop} (z:W1.n=W.n) (A:W1.c=W.c) (L:w.heap.size<=B) (N:B<=wC.heap.size) (g:∀m k,f m k->Gs m k\/B<=k) (p:qc (λk=>Gs (W.n+i) k\/Gs (W.at_ i) k) w wC) (s:∀m k,m<W.n+W.c->Y k->B<=k/\k<wC.heap.size/\¬f m k) (C:qby wC b M f (λk=>wC.heap.size<=k) W1 wD):
 ∃u,PW wD b u W1/\(∀k,u k->G k\/B<=k)/\qc G w wD/\∀k,Y k->B<=k/\¬u k:=by
 obtain⟨D,E,p1,p2,p3,r⟩:=C;have F:=p.size
 have y:∀k,qmp b {M with nv:=D,l:=E} (W1.n+W1.c) f k->G k\/wC.heap.size<=k\/(B<=k/\∃m,m<W.n+W.c/\f m k):=λk a=>by
  rw[z,A]at a;rcases a with (e|e|e|e|⟨x,H,e⟩)|⟨j,t,e⟩
  ·exact .inl ((d k).2 (.inl (.inl e)))
  ·exact .inl ((d k).2 (.inl (.inr (.inl e))))
  ·exact .inl ((d k).2 (.inl (.inr (.inr (.inl e)))))
  ·rcases p2 k e with q|q
   ·exact .inl ((d k).2 (.inl (.inr (.inr (.inr (.inl q))))))
   exact .inr (.inl q)
  ·rcases p3 x H with q|q
   ·exact .inl ((d k).2 (.inl (.inr (.inr (.inr (.inr ⟨x,q,e⟩))))))
   rw[e]at q;exact .inr (.inl q)
  rcases g j k e with q|q
  ·exact .inl ((d k).2 (.inr ⟨j,t,q⟩))
  exact .inr (.inr ⟨q,j,t,e⟩)
 have I:∀k,G k->k<w.heap.size:=λk a=>by
  rcases(d k).1 a with q|⟨j,t,q⟩
  ·exact h.ltF k q
  exact h.ltG t q
 refine⟨_,⟨_,f,p1,λ_=>jdl⟩,λk a=>?_,⟨r.os.trans p.os,r.tape.trans p.tape,r.output.trans p.output,jcn F r.size,λk a v=>?_⟩,λk a=>⟨(s 0 k (by omega) a).1,λe=>?_⟩⟩
 ·rcases y k a with q|q|q
  ·exact .inl q
  ·exact .inr (by omega)
  exact .inr q.1
 ·refine(r.block k (by omega) (λe=>v ((d k).2 (.inl (e.elim .inl (λq=>.inr (.inr (.inr (.inl q))))))))).trans (p.block k a (λe=>?_));rcases e with e|e
  ·exact v ((d k).2 (.inr ⟨W.n+i,by omega,e⟩))
  exact v ((d k).2 (.inr ⟨W.at_ i,by omega,e⟩))
 rcases y k e with q|q|⟨_,m,J,q⟩
 ·have:=I k q;have:=(s 0 k (by omega) a).1;omega
 ·have:=(s 0 k (by omega) a).2.1;omega
 exact(s m k J a).2.2 q
theorem qxt {m:TxM} (h:qr wD m.wa m.wc m.t.ws/\∃a,PW wD b a W1/\(∀k,a k->G k\/B<=k)/\qc G w wD/\∀k,m.blk k->B<=k/\¬a k) (r:∀k,G k->k<w.heap.size) (z:w.heap.size<B) (x0 x1 x2 x3 d f g j:Int) (v:Value):
 Hid (qr (js wD w.heap.size x0 x1 x2 x3 d f g j v) m.wa m.wc m.t.ws/\∃a,PW (js wD w.heap.size x0 x1 x2 x3 d f g j v) b a W1/\(∀k,a k->G k\/w.heap.size<=k)/\qc G w (js wD w.heap.size x0 x1 x2 x3 d f g j v)/\∀k,m.blk k->w.heap.size<=k/\¬a k):=by
 obtain⟨s,a,u,p,x,l⟩:=h
 have y:∀k,a k->k≠w.heap.size:=λk c e=>by
  rcases p k c with q|q
  ·have:=r k q;omega
  omega
 have A:(js wD w.heap.size x0 x1 x2 x3 d f g j v).heap.size=wD.heap.size:=by simp only[js,World.setCell,Array.size_modify]
 refine⟨s.kept (λk c=>qco (λe=>by have:=(l k c).1;omega) _ _ _ _ _ _ _ _ _),a,u.kept (λk c=>qco (y k c) _ _ _ _ _ _ _ _ _) (by omega),λk c=>?_,qwv x (jcd _) _ _ _ _ _ _ _ _ _,λk c=>⟨by have:=(l k c).1;omega,(l k c).2⟩⟩;rcases p k c with q|q
 ·exact .inl q
 exact .inr (by omega)
end
end
section
open Go.RowKit
section
variable {w w1 w2:World} {b:Nat} {G:Nat->Prop} {W W1 W2:WoS}
theorem vh.get (h:vh w b G W1 w1):∃a,PW w1 b a W1:=by
 obtain⟨a,c,_⟩:=h;exact⟨a,c⟩
theorem vh.from (a:Bw w w1) (h:vh w1 b G W2 w2):vh w b G W2 w2:=by
 obtain⟨c,d,f,g⟩:=h;exact⟨c,d,λq j=>(f q j).elim .inl (λe=>.inr (jcn a.size e)),(qc.ofBelow a).trans g⟩
end
variable {W:WoS} {i:Nat}
theorem jay (a:WfW W) (hi:i<W.n):qho.ok ⟨i,(W.S i).a0,(W.S i).a1,(W.S i).a2,(W.S i).a3⟩=true:=by
 have g:=a.n4;have I:=a.inv i hi;have c:=I.a0;have d:=I.a1;have e:=I.a2;have f:=I.a3;unfold qag at c d e f;simp only[qho.ok,jct,jk,jb,qdz];refine⟨by omega,⟨⟨by omega,by omega⟩,by omega⟩,by omega⟩
variable {b:Nat} {G:Nat->Prop}
theorem qv9 (w:World) (h:PW w b G W) (hi:i<W.n):
 Ca 96 #[PP b,U i,U i] w λe w'=>e=.returned (jc 2)/\vh w b G W w':=by
 obtain⟨M,g,h,j⟩:=h;have d:=hd2 h j;obtain⟨m,o,l,p,q,r,s⟩:=h.place hi;have f:=yi (k:=i) (v:=true) w l (by simp;omega);have t:=h.box.lt;go_enter Tryz.func96,Tryz.ntmps96
 go_wp2_with fail
 refine f.mono ?_;rintro e w2 ⟨rfl,a⟩;have c:=a.symm;subst c
 go_wp2_with fail
 refine f.mono ?_;rintro e w2 ⟨rfl,a⟩;have c:=a.symm;subst c
 go_wp2_with fail
 go_ret;exact⟨rfl,vh.same ⟨M,g,d.out.1,d.out.2⟩ (jcc _ _)⟩
theorem q7k (w:World) (h:PW w b G W) (u:WfW W) {o:Nat} (hi:i<W.n) (T:o<W.n) (V:i≠o):
 Ca 96 #[PP b,U i,U o] w λe w'=>e=.returned (jc 0)/\vh w b G (qme W i o) w':=by
 obtain⟨M,x,h,y⟩:=h;have a:=hd3 h y u;obtain⟨X,Y,m,Z,aa,y0,y1⟩:=h.place hi;have z:=yi (k:=i) (v:=true) w m (by simp;omega);have B:=yi (k:=o) (v:=true) w m (by simp;omega);have hlt:=h.box.lt
 have q1:(i:Int)<(W.n:Int):=by omega
 have C:=h.site hi
 have q3:¬(i:Int)=(o:Int):=by omega
 have D:=qff w C;have E:=hd1 hi;go_enter Tryz.func96,Tryz.ntmps96
 go_wp2_with fail
 refine z.mono ?_;rintro e w2 ⟨rfl,d⟩;have f:=d.symm;subst f
 go_wp2_with fail
 refine B.mono ?_;rintro e w2 ⟨rfl,d⟩;have f:=d.symm;subst f
 go_wp2_with fail
 refine D.mono ?_;rintro e F ⟨rfl,p⟩;have H:=qvb (jay a.out.2.2 E.out) F
 go_wp2_with fail
 refine H.mono ?_;rintro e l ⟨S,g,r,rfl,⟨I,_⟩,J,O,K⟩;have s:=qa p K;have L:=jcn p.size O.base;have N:=a.out.1.later s
 have P:Hid (Ca 144 #[PP b,.agg #[U o,.slice (PT g) S.size r]] l λe w'=>e=.returned (.tuple #[])/\qby l b M x (λk=>k=g) (qme W i o) w'):=
  qou l N ⟨⟨o,.ask i (W.S i).a0 (W.S i).a1 (W.S i).a2 (W.S i).a3⟩,g,r,S⟩ ⟨O.mono (jcw _),J,I⟩ (.inr (λe=>by
   rcases e with q|⟨j,Q,q⟩
   ·have:g<w.heap.size:=a.out.1.ltF g q;omega
   have:g<w.heap.size:=a.out.1.ltG Q q
   omega))
 go_wp2_with fail
 refine P.out.mono ?_;rintro e w5 ⟨rfl,R⟩
 go_wp2_with fail
 go_ret;refine⟨rfl,?_⟩;have t:=yb W ⟨o,.ask i (W.S i).a0 (W.S i).a1 (W.S i).a2 (W.S i).a3⟩;exact(R.from s).post (W:=W) a.out.2.1 t.n t.c (λk e=>.inr (by rw[e];exact L))
theorem q5x (w:World) (h:PW w b G W) {g:GrS} (hi:W.net[i]?=some g):
 Ca 116 #[PP b,U i] w λe w'=>e=.returned (jc 0)/\vh w b G (zk W g) w':=by
 obtain⟨M,I,h,t⟩:=h
 have J:M.l.length=W.net.length:=by rw[<-h.nl];simp
 have x:i<M.l.length:=by have:=(jck.1 hi).1;omega
 obtain⟨m,a⟩:∃m,M.l[i]?=some m:=⟨_,jcg x⟩
 have y:m.g=g:=by
  have:=hi;rw[<-h.nl,jcv,a]at this;exact jcu this
 subst y;have d:=jcq a;obtain⟨z,K,B,r⟩:=qq h.nr
 obtain⟨L,rfl,N,o⟩:∃g,z=some (AD g 0)/\g<w.heap.size/\∀j u,(qap M.l)[j]?=some u->w.cell? (AD g j)=some u:=by
  rcases r.held with p|p
  ·omega
  exact p
 have q:=h.box.cell 2 _ rfl;rw[B]at q;have x0:=o _ _ (qtm a).1;have x1:=o _ _ (qtm a).2;have C:=qey (k:=i) (v:=true) w q (by simp;omega);have D:=qou w h m (h.gr m d) (.inl ⟨m,d,rfl⟩);have f:=hd2 t d;have O:=h.box.lt
 have P:(i:Int)<(M.l.length:Int):=by omega
 have Q:=r.len;go_enter Tryz.func116,Tryz.ntmps116
 go_wp2_with fail
 refine C.mono ?_;rintro e w2 ⟨rfl,E⟩;have F:=E.symm;subst F
 go_wp2_with fail
 refine D.mono ?_;rintro e R ⟨rfl,H⟩
 go_wp2_with fail
 go_ret;have s:=yb W m.g;exact⟨rfl,H.post (W:=W) f.out.1 s.n s.c (λk e=>.inl ((f.out.1 k).2 (.inl (.inr (.inr (.inr (.inr ⟨m,f.out.2,e.symm⟩)))))))⟩
end
section
open Go.RowKit
theorem qjg (l a:List GrM):qap (l++a)=qap l++qap a:=by simp[qap]
theorem qwh (l:List GrM):∀u∈qap l,u.oneCell'=true:=by
 intro u a;obtain⟨x,_,b⟩:=List.mem_flatMap.1 a;exact qr2 x u b
theorem q7t:∀w,(zeroValue 205).run Tryz.prog w=.ok (.agg #[U 0,.slice none 0 0]) w:=λw=>by kernel_rfl
theorem qhe:(Builtin.zeroCells (Value.agg #[U 0,.slice none 0 0]).cells 1).toList=[U 0,.slice none 0 0]:=by
 simp only[Builtin.zeroCells,Array.toList_map];have a:(Value.agg #[U 0,.slice none 0 0]).cells=#[U 0,.slice none 0 0]:=rfl;rw[a];have e:(#[Value.int .i64 0,.slice none 0 0]:Array Value).size=2:=rfl;rw[e];simp[List.range_succ]
theorem qr9:∀u∈(Builtin.zeroCells (Value.agg #[U 0,.slice none 0 0]).cells 1).toList,u.oneCell'=true:=by
 rw[qhe];intro u a;simp at a
 rcases a with rfl|rfl<;>rfl
theorem qz2 {g cap i:Nat} {l:List GrM} (w:World) (q:w.ownsRow 0 205 2 (.slice (PT g) l.length cap) l.length (qap l)) (hi:i<l.length) (hl:l.length<=300):
 Ca 153 #[.slice (PT g) l.length cap,U i,U ((i:Int)+1)] w λe w'=>e=.returned (.slice (PT g) (l.length-1) cap)/\w'.ownsRow 0 205 2 (.slice (PT g) (l.length-1) cap) (l.length-1) (qap (l.eraseIdx i))/\yu g w w':=by
 obtain⟨r,s,hz0,v,hz2⟩:=info_parts quo
 obtain⟨cur,n,P,Q,R⟩:∃cur,w.heap[g]?=some (.cells cur 205 (0,0))/\l.length<=cap/\cap<=maxLen/\cur.size=cap*2:=by
  rcases q.2 with ⟨h,_⟩|⟨g2,cap2,cur,e,hb,S,T,V,W,k⟩
  ·cases h
  injection e with a e2 e3;injection a with a;injection a with a;subst a e3;exact⟨cur,S,T,V,W⟩
 have x:∀j u,(qap l)[j]?=some u->w.cell? (AD g j)=some u:=λj u b=>by
  have d:=q.cells (g:=g) rfl j u b;rw[qal]at d;exact d
 have y:∀j,j<cap*2->(w.cell? (AD g j)).isSome=true/\w.frozen? (AD g j)=false:=λj c=>by
  constructor
  ·rw[cell_of_row w g j cur _ (0,0) n,jde (by omega)];rfl
  unfold World.frozen?;rw[n];simp
 have X:qap (l.eraseIdx i)=qap (l.take i)++qap (l.drop (i+1)):=by rw[jdf,qjg]
 have z:(qap (l.take i)).length=i*2:=by rw[qgz,jc5];omega
 have lv:(qap (l.drop (i+1))).length=(l.length-(i+1))*2:=by rw[qgz,jdt]
 have Y:qap l=qap (l.take (i+1))++qap (l.drop (i+1)):=by rw[<-qjg,jds]
 have B:(qap (l.take (i+1))).length=(i+1)*2:=by rw[qgz,jc5];omega
 obtain⟨W1,C⟩:∃W1,W1=w.drew.setCells g (0+i*2) (qap (l.drop (i+1))):=⟨_,rfl⟩
 have D:=qlp (w:=w.drew) (g:=g) (qap (l.take i)) (qap (l.drop (i+1))) [U 0,.slice none 0 0] (λj u b=>by
  refine x j u ?_
  have:qap l=qap (l.take i)++qap (l.drop i):=by rw[<-qjg,jds]
  rw[this,jc3 (jck.1 b).1]
  exact b) (λj c=>(y j (by rw[z,lv]at c;simp at c;omega)).1)
 rw[z,lv,show i*2+(l.length-(i+1))*2=(l.length-1)*2 by omega]at D;have hd1:w.drew.heap[g]?=some (.cells cur 205 (0,0)):=n;obtain⟨E,F,Z⟩:=qat g (qap (l.drop (i+1))) (i*2) w.drew hd1;obtain⟨cur2,aa,ab⟩:=qat g [U 0,.slice none 0 0] ((l.length-1)*2) _ F
 have G:Hid (((w.drew.setCells g (i*2) (qap (l.drop (i+1)))).setCells g ((l.length-1)*2) [U 0,.slice none 0 0]).ownsRow 0 205 2 (.slice (PT g) (l.length-1) cap) (l.length-1) (qap (l.eraseIdx i))):=by
  refine qfz (jcw _) aa Q (by rw[ab,Z,R]) (by omega) (by rw[qgz,List.length_eraseIdx,if_pos hi]) (λj u b=>?_);rw[X]at b;exact D j u (by rw[jc3 (jck.1 b).1];exact b)
 have H:Hid (yu g w ((w.drew.setCells g (i*2) (qap (l.drop (i+1)))).setCells g ((l.length-1)*2) [U 0,.slice none 0 0])):=
  yu.trans (yu.trans (yu.ofBelow (jcc _ w).drew) (zg g _ _ _) (.inl rfl)) (zg g _ _ _) (.inl rfl)
 have s3:Hid (∀t,t<(qap (l.drop (i+1))).length->(w.drew.cell? (AD g (0+i*2+t))).isSome=true/\w.drew.frozen? (AD g (0+i*2+t))=false):=λt k=>by
  rw[lv]at k;exact y _ (by omega)
 have ac:∀o,(Builtin.clear_ #[160] o #[.slice (some (AD g ((l.length-1)*2))) 1 (cap-(l.length-1))]).run Tryz.prog W1=.ok (.tuple #[]) (W1.setCells g ((l.length-1)*2) [U 0,.slice none 0 0]):=λo=>by
  have I:∀j,j<cap*2->(W1.cell? (AD g j)).isSome=true/\W1.frozen? (AD g j)=false:=λj c=>by
   have J:W1.heap[g]?=some (.cells E 205 (0,0)):=by rw[C,Nat.zero_add];exact F
   constructor
   ·rw[cell_of_row W1 g j E _ (0,0) J,jde (by omega)];rfl
   unfold World.frozen?;rw[J];simp
  have K:(Builtin.zeroCells (Value.agg #[U 0,.slice none 0 0]).cells 1).size=2:=by rw[<-Array.length_toList,qhe];rfl
  have:=qng W1 160 205 o (.agg #[U 0,.slice none 0 0]) Tryz.underlying160 q7t g ((l.length-1)*2) 1 (cap-(l.length-1)) (by omega) qr9 (λj c=>(I _ (by rw[K]at c;omega)).1) (λj c=>(I _ (by rw[K]at c;omega)).2);rw[qhe]at this;exact this
 have m:Hid (W1=w.drew.setCells g (0+i*2) (qap (l.drop (i+1)))):=C
 have q0:(i:Int)<(l.length:Int):=by omega
 have q1:(i:Int)+1<=(l.length:Int):=by omega
 have q2:(l.length:Int)<=(cap:Int):=by omega
 have q3:(i:Int)<=(cap:Int):=by omega
 have q4:(i:Int)+1<=(cap:Int):=by omega
 have q5:(l.length:Int)<=300:=by omega
 have q6:i+(l.length-(i+1))=l.length-1:=by omega
 have q7:¬(i:Int)=(i:Int)+1:=by omega
 have q8:(i:Int)<=(i:Int)+1:=by omega
 have q9:0<=(i:Int)+1:=by omega
 have q10:l.length-(l.length-1)=1:=by omega
 have f:Hid (i<l.length/\l.length<=cap):=⟨hi,P⟩
 have L:Hid (∀A:Addr,(if cap=i+1 then some ((AD g 0):Addr)else some (AD g ((i+1)*2)))=some A->∀t u,(qap (l.drop (i+1)))[t]?=some u->w.drew.cell? (A.add t)=some u):=λA M t u b=>by
  by_cases d:cap=i+1
  ·have:l.length-(i+1)=0:=by omega
   have k:=(jck.1 b).1;rw[lv,this]at k;omega
  rw[if_neg d]at M;have ad:((AD g ((i+1)*2)):Addr)=A:=jcu M;subst ad
  have ae:((AD g ((i+1)*2)):Addr).add t=(AD g ((i+1)*2+t)):=by unfold Addr.add;split<;>simp_all
  rw[ae];refine x _ u ?_;rw[Y,jc0 (by rw[B];omega),B,show (i+1)*2+t-(i+1)*2=t by omega];exact b
 have s1:Hid ((qap (l.drop (i+1))).length=(l.length-(i+1))*2):=lv;by_cases d:cap=i+1
 ·subst d
  have z1:l.length-i=1:=by have:=f.out;omega
  have N:l.length-1=i:=by have:=f.out;omega
  rw[N,show i+1-i=1 by omega]at ac;have Z2:Hid (l.length-1=i):=N;have p:Hid (∀t u,(qap (l.drop (i+1)))[t]?=some u->w.drew.cell? (((AD g 0):Addr).add t)=some u):=L.out _ (if_pos rfl);go_enter Tryz.func153,Tryz.ntmps153
  go_wp2_with fail
  go_region_law (refine step_append_room rfl (.tmp 22) (.tmp 25) 160 rfl 205 r 2 Tryz.underlying160 s v g 0 i (i+1) (by simp[Act.eval,Act.put]) (AD g 0) (l.length-(i+1)) 0 (qap (l.drop (i+1))) (by simp[Act.eval,Act.put];have:=f.out;omega) s1.out p.out (qwh _) (by have:=f.out;omega) s3.out ?_
                 rw[<-m.out])
  all_goals
   go_wp2_with fail
   go_ret;have a:=m.out;rw[Nat.zero_add]at a;subst a;have f1:=G.out;have O:=H.out;rw[Z2.out]at f1 O ⊢;exact⟨rfl,f1,O⟩
 have p:Hid (∀t u,(qap (l.drop (i+1)))[t]?=some u->w.drew.cell? (((AD g ((i+1)*2)):Addr).add t)=some u):=L.out _ (if_neg d);go_enter Tryz.func153,Tryz.ntmps153
 go_wp2_with fail
 go_region_law (refine step_append_room rfl (.tmp 22) (.tmp 25) 160 rfl 205 r 2 Tryz.underlying160 s v g 0 i cap (by simp[Act.eval,Act.put]) (AD g ((i+1)*2)) (l.length-(i+1)) (cap-(i+1)) (qap (l.drop (i+1))) (by simp[Act.eval,Act.put]) s1.out p.out (qwh _) (by have:=f.out;omega) s3.out ?_
                rw[<-m.out])
 all_goals
  go_wp2_with fail
  go_ret;have a:=m.out;rw[Nat.zero_add]at a;subst a;exact⟨rfl,G.out,H.out⟩
end
section
open Go.RowKit
theorem q6v {b G:Nat} {F:Nat->Prop} {l:List Hd} (a0 a1 a2 a3:Int) (w:World) (O:qir w b G F l) (Q:l.length<=1000) (R:qfk l) (S:∀h∈l,qau h.v=true):
 Ca 217 #[.pointer (some (AD b G)),.agg #[U a0,U a1,U a2,U a3]] w λe w'=>∃v,e=.returned v/\w'.ownsRow w.heap.size 9 1 v 8 (qej a0 a1 a2 a3 l 8)/\Bw w w':=by
 have f:=qd.new (w:=w) (T:=77) [U a0,U a1,U a2,U a3] rfl;have c:=boxed (jcc _ w) (.cells #[U a0,U a1,U a2,U a3] 77);have H:=hd1 O;have V:=hd1 R;have I:=hd1 S;obtain⟨W,hi,X,Y,Z⟩:=info_parts qki;obtain⟨J,K,L,M⟩:=run_make_full (P:=Tryz.prog) (w.alloc (.cells #[U a0,U a1,U a2,U a3] 77)) w.heap.size 42 9 W (.string ⟨#[]⟩) 1 Tryz.underlying42 hi X Y .i64 .i64 8 (by rw[Z];decide) (by simp[maxLen]) (by simp)
 have hmk2:(Instr.makeSlice 42 (U 8) (U 8)).run Tryz.prog (w.alloc (.cells #[U a0,U a1,U a2,U a3] 77))=.ok (.slice (PT (w.heap.size+1)) 8 8) J:=by
  rw[jdi]at K;exact K
 have aa:J.ownsRow w.heap.size 9 1 (.slice (PT (w.heap.size+1)) 8 8) 8 (qlv a0 a1 a2 a3 l 0):=by
  rw[jdi,show (Value.string ⟨#[]⟩).cells=#[Value.string ⟨#[]⟩]from rfl,toList_madeCells_one]at L;exact L
 have ab:=f.grown M (by simp);have d:=c.grown M c.size (λk e=>by cases e);go_enter Tryz.func217,Tryz.ntmps217
 go_wp2_with fail
 go_loopw [12] (λiv wr=>∃(k:Nat) (z:Int),k<=8/\z=k/\iv=U z/\wr.ownsRow w.heap.size 9 1 (.slice (PT (w.heap.size+1)) 8 8) 8 (qlv a0 a1 a2 a3 l k)/\qd wr w.heap.size [U a0,U a1,U a2,U a3]/\Bw w wr) (λi _=>8-(intOf i).toNat)
 case atStart=>exact⟨0,0,by omega,rfl,rfl,aa,ab,d⟩
 obtain⟨k,z,hk,hz,rfl,p,f,c⟩:=hrel;have q:=hd1 hz;by_cases N:k<8
 ·have h1:z<8:=by omega
  have h3:0<=z:=by omega
  have h2:z.toNat=k:=by omega
  have S4:=H.out.kept (λj t=>c.block j (H.out.lt j t)) c.size;obtain⟨c0,c1,c2,c3⟩:=f.c4
  go_wp2_with fail
  refine(qq1 z a0 a1 a2 a3 _ S4 Q V.out I.out).mono ?_;rintro e w2 ⟨rfl,d⟩;have y:=qoc (key:=z) (a0:=a0) (a1:=a1) (a2:=a2) (a3:=a3) I.out
  have r:Hid (qdf a0 a1 a2 a3 l k=if (zz z a0 a1 a2 a3 l).2=0 then (⟨#[61]⟩:ByteArray)++(zz z a0 a1 a2 a3 l).1.data else ⟨#[]⟩):=by
   show qdf a0 a1 a2 a3 l k=_;rw[q.out];rfl
  obtain⟨⟨rv,B⟩,hrd⟩:∃x,zz z a0 a1 a2 a3 l=x:=⟨_,rfl⟩;rw[hrd]at r y ⊢;simp only at r y ⊢;obtain⟨g,m,bs,n,a,o⟩:=rv;simp only at r y;rw[show qh ⟨g,m,bs,n,a,o⟩=[U g,U m,U bs,U n,.string a,.bool o]from rfl];replace f:=(f.later d).boxed (.cells #[U g,U m,U bs,U n,.string a,.bool o] 130);have ownk1:=p.kept (row:=none) ⟨d.os,d.tape,d.output,d.size,λj t _=>d.block j t⟩ (by simp[Value.ownBlock]);replace p:=ownk1.alloc (.cells #[U g,U m,U bs,U n,.string a,.bool o] 130);replace c:=boxed (qa c d) (.cells #[U g,U m,U bs,U n,.string a,.bool o] 130);have RB:=qd.new (w:=w2) (T:=130) [U g,U m,U bs,U n,.string a,.bool o] rfl;have d3:=RB.cell 4 _ rfl;by_cases C:B=0
  ·subst C
   have D:Hid (qdf a0 a1 a2 a3 l k=(⟨#[61]⟩:ByteArray)++a):=by show qdf a0 a1 a2 a3 l k=_;rw[r.out,if_pos rfl]
   have ad:=λw=>qfi (P:=Tryz.prog) (⟨#[61]⟩:ByteArray) a (by have z:(⟨#[61]⟩:ByteArray).size=1:=rfl;omega) w;have ev:jc 0=.nilIface:=rfl;rw[ev];have cc:=p.cellAt k (by omega);have cx:∃u,(qlv a0 a1 a2 a3 l k)[k]?=some u:=⟨_,jcg (by simp[qlv,qij];omega)⟩;obtain⟨ux,hux⟩:=cx;rw[hux]at cc;have ff:=p.frozenAt k;have E:=p.stored k (.string ((⟨#[61]⟩:ByteArray)++a));have hbl:=f.lt;have RA9:=f.grown E.2 (by simp);have hb9:=c.grown E.2 (by have:=c.size;omega) (λj e=>by cases e;omega)
   have s:((w2.alloc (.cells #[U g,U m,U bs,U n,.string a,.bool o] 130)).setCell (AD (w.heap.size+1) k) (.string ((⟨#[61]⟩:ByteArray)++a))).ownsRow w.heap.size 9 1 (.slice (PT (w.heap.size+1)) 8 8) 8 (qlv a0 a1 a2 a3 l (k+1)):=by
        rw[<-q38 N,D.out];exact E.1
   go_wp2_with fail
   go_roundw
   case rel=>exact⟨k+1,z+1,by omega,by have:=q.out;omega,by go_num,s,RA9,hb9⟩
   simp[intOf];have:=q.out;omega
  have ev:jc B=.iface 26 (U B):=by unfold jc;rw[if_neg C]
  rw[ev]
  have D:Hid (qdf a0 a1 a2 a3 l k=⟨#[]⟩):=by show qdf a0 a1 a2 a3 l k=_;rw[r.out,if_neg C]
  have s:(w2.alloc (.cells #[U g,U m,U bs,U n,.string a,.bool o] 130)).ownsRow w.heap.size 9 1 (.slice (PT (w.heap.size+1)) 8 8) 8 (qlv a0 a1 a2 a3 l (k+1)):=by
   rw[<-q25 N D.out];exact p
  go_wp2_with fail
  go_roundw
  case rel=>exact⟨k+1,z+1,by omega,by have:=q.out;omega,by go_num,s,f,c⟩
  simp[intOf];have:=q.out;omega
 obtain rfl:k=8:=by omega
 have h1:¬z<8:=by omega
 have s:wr.ownsRow w.heap.size 9 1 (.slice (PT (w.heap.size+1)) 8 8) 8 (qej a0 a1 a2 a3 l 8):=by
  have e:qlv a0 a1 a2 a3 l 8=qej a0 a1 a2 a3 l 8:=by unfold qlv;simp
  rw[<-e];exact p
 go_wp2_with fail
 go_ret;exact⟨_,rfl,s,c⟩
end
section
open Go.RowKit Go.Maps
variable {b:Nat} {G:Nat->Prop} {S:qe}
theorem q3f (w:World) (h:PS w b G S):
 Ca 159 #[PP b] w (Rn (U S.waits.length) w):=by
 obtain⟨lv,bm,F,log,waits,c,_,d⟩:=h.mem;have g:=c.box.cell 8 _ rfl;obtain⟨_,_,i,e,f⟩:=c.map
 have j:∀a,(Builtin.len_ #[214] a #[.map (some bm)]).run Tryz.prog w=.ok (U S.waits.length) w:=λa=>by
  have:=e.len Tryz.underlying214 a;rw[f.size,d]at this;exact this
 go_enter Tryz.func159,Tryz.ntmps159
 go_wp2_with fail
 go_ret;exact⟨rfl,jcc _ _⟩
theorem q6f (w:World) (h:PS w b G S) (c:j3 S):
 Ca 160 #[PP b] w λe w'=>∃v,e=.returned v/\w'.ownsRow w.heap.size 9 1 v 8 (qej S.a0 S.a1 S.a2 S.a3 S.l 8)/\Bw w w':=by
 obtain⟨lv,bm,F,log,waits,a,_,_⟩:=h.mem;have k:=a.box.cell 1 _ rfl;have m:=a.box.cell 2 _ rfl;have n:=a.box.cell 3 _ rfl;have o:=a.box.cell 4 _ rfl
 have f:Hid (Ca 217 #[.pointer (some (AD b 25)),.agg #[U S.a0,U S.a1,U S.a2,U S.a3]] w.drew λe w'=>∃v,e=.returned v/\Hid (w'.ownsRow w.heap.size 9 1 v 8 (qej S.a0 S.a1 S.a2 S.a3 S.l 8)/\Bw w w')):=
  (q6v S.a0 S.a1 S.a2 S.a3 w.drew (a.later (jcc _ w).drew).st c.many c.apart c.ok).mono λe w' ⟨v,g,i,j⟩=>⟨v,g,i,qa (jcc _ w).drew j⟩
 go_enter Tryz.func160,Tryz.ntmps160
 go_wp2_with fail
 go_region_law (refine je rfl 217 #[.pointer (some (AD b 25)),.agg #[U S.a0,U S.a1,U S.a2,U S.a3]] (by go_simp) f.out ?_
                rintro e w2 ⟨v,rfl,d⟩
                refine⟨_,rfl,?_⟩)
 all_goals
  go_wp2_with fail
  go_ret;exact⟨_,rfl,d.out.1,d.out.2⟩
end
section
open Go.RowKit
theorem qnj {tmps:Array Value} {w:World} {g:Nat} {x:Wr} {v:Bool} (h:qd w g [U x.key,.string x.data,.bool x.gone]) (a:tmps[4]?=some (PP g)) (b:tmps[5]?=some (.bool v)):
 (results Tryz.f78 tmps).run Tryz.prog w=.ok (.tuple #[wrV x,.bool v]) w:=by
 have c:=h.cell 0 _ rfl;have d:=h.cell 1 _ rfl;have e:=h.cell 2 _ rfl;simp[results,Tryz.results78,go_sem,a,b,c,d,e,wrV]
theorem qla {b:Nat} {wv:Value} {s:qy} (key:Int) (w:World) (h:qgs w b wv s):
 Ca 78 #[PP b,U key] w (Rn (.tuple #[wrV (qav s.ws key),.bool (qay s.ws key).isSome]) w):=by
 have H:=boxed (jcc _ w) (.cells #[U 0,.string ⟨#[]⟩,.bool false] 100);have RW:=qd.new (w:=w) (T:=100) [U 0,.string ⟨#[]⟩,.bool false] rfl;change qd (w.alloc (.cells #[U 0,.string ⟨#[]⟩,.bool false] 100)) w.heap.size [U 0,.string ⟨#[]⟩,.bool false]at RW;have v:=h.later H;obtain⟨a,cap,rfl,o⟩:=qbg v.row;have Q:=v.box.cell 9 _ rfl;have R:=o.len;have S:=o.cap;have I:=hd1 o;have B:Hid (∀x:Wr,qd (w.alloc (.cells #[U x.key,.string x.data,.bool x.gone] 100)) w.heap.size [U x.key,.string x.data,.bool x.gone]):=λx=>qd.new (w:=w) (T:=100) [U x.key,.string x.data,.bool x.gone] rfl;have C:Hid (∀x:Wr,Bw w (w.alloc (.cells #[U x.key,.string x.data,.bool x.gone] 100))):=λx=>boxed (jcc _ w) _;have V:=RW.cell 0 _ rfl;have W:=RW.cell 1 _ rfl;have X:=RW.cell 2 _ rfl;have Y:=RW.free 0 (by simp);have f1:=RW.free 1 (by simp);have Z:=RW.free 2 (by simp);go_enter Tryz.func78,Tryz.ntmps78
 go_wp2_with fail
 go_loopw [6] (λiv wr=>∃(k:Nat) (z:Int),k<=s.ws.length/\z=k-1/\iv=U z/\Hid (∀j y,k<=j->s.ws[j]?=some y->y.key≠key)/\wr=w.alloc (.cells #[U 0,.string ⟨#[]⟩,.bool false] 100)) (λi _=>(intOf i+1).toNat)
 case atStart=>exact⟨s.ws.length,s.ws.length-1,jcd _,rfl,by go_num,(λj y p c=>by rw[List.getElem?_eq_none p]at c;cases c),rfl⟩
 obtain⟨k,z,hk,J,rfl,q,rfl⟩:=hrel;have K:=hd1 J;cases k with
 |zero=>
  have L:¬0<=z:=by omega
  have f:=hd1 (q15 (λj y c=>q.out j y (by omega) c))
  go_wp2_with fail
  refine bodyPost_ret (qnj (B.out ⟨0,⟨#[]⟩,false⟩) rfl rfl) rfl ⟨?_,C.out ⟨0,⟨#[]⟩,false⟩⟩;rw[f.out,show qav s.ws key=⟨0,⟨#[]⟩,false⟩ by unfold qav;rw[f.out];rfl];rfl
 |succ k=>
  have L:0<=z:=by omega
  have g2:z.toNat=k:=by omega
  have g3:z<(s.ws.length:Int):=by omega
  have g:k<s.ws.length:=by omega
  obtain⟨r,t,rfl,M⟩:∃r t,a=some (AD r t)/\qbo (w.alloc (.cells #[U 0,.string ⟨#[]⟩,.bool false] 100)) r t s.ws:=by
   rcases I.out.held with u|u
   ·rw[u]at g;simp at g
   exact u
  obtain⟨⟨d,l,m⟩,D⟩:∃x,s.ws[k]?=some x:=⟨s.ws[k],jcg g⟩
  have N:qa7 s.ws k=⟨d,l,m⟩:=by unfold qa7;rw[jdp,D];rfl
  have E:=M k g;rw[N]at E;obtain⟨x0,x1,x2⟩:=E;have F:=hd1 D;by_cases n:d=key
  ·have O:(d==key)=true:=by simp[n]
   have f:=hd1 (q8d F.out n (λj y p c=>q.out j y (by omega) c))
   go_wp2_with fail
   refine bodyPost_ret (qnj (B.out ⟨d,l,m⟩) rfl rfl) rfl ⟨?_,C.out ⟨d,l,m⟩⟩;rw[f.out,show qav s.ws key=⟨d,l,m⟩ by unfold qav;rw[f.out];rfl];rfl
  have O:(d==key)=false:=by simp[n]
  have P:=hd1 n
  go_wp2_with fail
  go_roundw
  case rel=>exact⟨k,z-1,by omega,by have:=K.out;omega,by go_num,(λj y p c=>by
   rcases jc7 k j with G|G
   ·exact q.out j y G c
   have e:j=k:=by omega
   subst e;rw[F.out]at c;injection c with c;rw[<-c]
   exact P.out),trivial⟩
  simp[intOf];omega
end
section
open Go.RowKit
theorem qp1 {b:Nat} {wv:Value} {s:qy} (w:World) (h:qgs w b wv s):
 Ca 80 #[PP b] w λe w'=>∃v,e=.returned v/\w'.ownsRow w.heap.size 100 3 v (jh s.ws).length (qcf (jh s.ws))/\Bw w w':=by
 have F:=hd1 h;obtain⟨G,hi,H,I,J⟩:=info_parts qmn;go_enter Tryz.func80,Tryz.ntmps80
 go_wp2_with fail
 go_loopw [3,7] (λK iv wr=>∃(k:Nat) (z:Int),k<=8/\z=k/\iv=U z/\wr.ownsRow w.heap.size 100 3 K (qak s.ws k).length (qcf (qak s.ws k))/\Bw w wr) (λ_ i _=>8-(intOf i).toNat)
 case atStart=>exact⟨0,0,by omega,rfl,rfl,jcx _ _ _ _,jcc _ _⟩
 obtain⟨k,z,X,n,rfl,own,o⟩:=hrel;have p:=hd1 n;have Y:=qkg s.ws k;by_cases Z:k<8
 ·have L:z<8:=by omega
  have h0:0<=z:=by omega
  have f:=qla z wr (F.out.later o);have B:Hid (qak s.ws (k+1)=qak s.ws k++(match qay s.ws (k:Int)with|some x=>[x]|none=>[])):=qim s.ws k;rw[n]at f;cases ho:qay s.ws (k:Int)with
  |none=>
   have t:qav s.ws (k:Int)=⟨0,⟨#[]⟩,false⟩:=by unfold qav;rw[ho];rfl
   have y:Hid (qak s.ws (k+1)=qak s.ws k):=by show _=_;rw[B.out,ho];simp
   rw[ho,t]at f;rw[<-n]at f
   go_wp2_with fail
   refine f.mono ?_;rintro e g ⟨rfl,l⟩;rw[show wrV ⟨0,⟨#[]⟩,false⟩=.agg #[U 0,.string ⟨#[]⟩,.bool false]from rfl,show (none:Option Wr).isSome=false from rfl];have M:=(qf own (λk e=>l.block k (own.lt k e).2)).alloc (.cells #[U 0,.string ⟨#[]⟩,.bool false] 100);have N:=boxed (qa o l) (.cells #[U 0,.string ⟨#[]⟩,.bool false] 100)
   go_wp2_with fail
   go_roundw
   case rel=>exact⟨k+1,z+1,by omega,by have:=p.out;omega,by go_num,by rw[y.out];exact M,N⟩
   simp[intOf];have:=p.out;omega
  |some x=>
   obtain⟨a,c,d⟩:=x
   have t:qav s.ws (k:Int)=⟨a,c,d⟩:=by unfold qav;rw[ho];rfl
   have y:Hid (qak s.ws (k+1)=qak s.ws k++[⟨a,c,d⟩]):=by show _=_;rw[B.out,ho]
   rw[ho,t]at f;rw[<-n]at f
   go_wp2_with fail
   refine f.mono ?_;rintro e g ⟨rfl,l⟩;rw[show wrV ⟨a,c,d⟩=.agg #[U a,.string c,.bool d]from rfl,show (some (⟨a,c,d⟩:Wr)).isSome=true from rfl];have q:=(qf own (λk e=>l.block k (own.lt k e).2)).alloc (.cells #[U a,.string c,.bool d] 100);have m:=qd.new (w:=g) (T:=100) [U a,.string c,.bool d] rfl;change qd (g.alloc (.cells #[U a,.string c,.bool d] 100)) g.heap.size [U a,.string c,.bool d]at m;have r:=boxed (qa o l) (.cells #[U a,.string c,.bool d] 100);obtain⟨W1,C⟩:∃W1,g.alloc (.cells #[U a,.string c,.bool d] 100)=W1:=⟨_,rfl⟩;rw[C]at q m r;have y0:=m.cell 0 _ rfl;have y1:=m.cell 1 _ rfl;have y2:=m.cell 2 _ rfl;obtain⟨O,P,rfl,D⟩:=qbg q;have hcl:=D.len;have hcc:=D.cap
   go_wp2_with (first|(rw[C])|(at_builtin;refine wpList_append_lies _ rfl (.tmp 17) (.tmp 19) 88 rfl w.heap.size 100 G (.agg #[U 0,.string ⟨#[]⟩,.bool false]) 3 32 Tryz.underlying88 hi H I J rfl (by decide) (.slice O (qak s.ws k).length P) (qak s.ws k).length (qcf (qak s.ws k)) rfl (q.alloc _) (AD W1.heap.size 0) 1 1 (wrC ⟨a,c,d⟩) rfl rfl (World.news_of_block (heap_alloc_new W1 (.cells #[U a,.string c,.bool d] 100))) (by intro u E;simp[wrC]at E;rcases E with rfl|rfl|rfl<;>rfl) (by decide) (by simp only[maxLen];omega) (by omega) (by have:=r.size;simp;omega) _ rfl ?_;intro g9 cap9 wE Q R egE ltE))
   have S:=(boxed r (.cells #[U a,.string c,.bool d] 100)).grown R (by have:=r.size;simp;omega) (λj V=>by have:=(q.lt _ V).1;omega)
   go_roundw
   case rel=>exact⟨k+1,z+1,by omega,by have:=p.out;omega,by go_num,by rw[y.out,qkh,jcl];exact Q,S⟩
   simp[intOf];have:=p.out;omega
 have L:¬z<8:=by omega
 have W:k=8:=by omega
 subst W
 go_wp2_with fail
 go_ret;exact⟨_,rfl,own,o⟩
end
section
open Tryz Go.RowKit
theorem qnt (a0 a1 a2 a3:Int) (w:World):
 Ca 178 #[.agg #[U a0,U a1,U a2,U a3]] w (Rn (.bool (jb a0 a1 a2 a3)) w):=by
 have g:∀w,(Instr.index 77 (.agg #[U a0,U a1,U a2,U a3]) (U 0)).run prog w=.ok (U a0) w:=λ_=>by kernel_rfl
 have h:∀w,(Instr.index 77 (.agg #[U a0,U a1,U a2,U a3]) (U 1)).run prog w=.ok (U a1) w:=λ_=>by kernel_rfl
 have i:∀w,(Instr.index 77 (.agg #[U a0,U a1,U a2,U a3]) (U 2)).run prog w=.ok (U a2) w:=λ_=>by kernel_rfl
 have j:∀w,(Instr.index 77 (.agg #[U a0,U a1,U a2,U a3]) (U 3)).run prog w=.ok (U a3) w:=λ_=>by kernel_rfl
 by_cases b:qi a0=false
 ·have e:jb a0 a1 a2 a3=false:=by simp[jb,b]
  rw[e];go_enter func178,ntmps178
  go_wp2
  refine wp_loop_rounds 5 ?_;rw[rounds_succ]
  go_wp2_with (go_at_call 28;refine(qbk _ _).mono ?_;rintro e a ⟨rfl,rfl⟩)
  go_ret;exact⟨rfl,by repeat (first|exact jcc _ _|apply jy|apply boxed)⟩
 have b:qi a0=true:=by simpa using b
 by_cases c:qi a1=false
 ·have e:jb a0 a1 a2 a3=false:=by simp[jb,c]
  rw[e];go_enter func178,ntmps178
  go_wp2
  refine wp_loop_rounds 5 ?_;rw[rounds_succ]
  go_wp2_with (go_at_call 28;refine(qbk _ _).mono ?_;rintro e a ⟨rfl,rfl⟩)
  rw[rounds_succ]
  go_wp2_with (go_at_call 28;refine(qbk _ _).mono ?_;rintro e a ⟨rfl,rfl⟩)
  go_ret;exact⟨rfl,by repeat (first|exact jcc _ _|apply jy|apply boxed)⟩
 have c:qi a1=true:=by simpa using c
 by_cases d:qi a2=false
 ·have e:jb a0 a1 a2 a3=false:=by simp[jb,d]
  rw[e];go_enter func178,ntmps178
  go_wp2
  refine wp_loop_rounds 5 ?_;rw[rounds_succ]
  go_wp2_with (go_at_call 28;refine(qbk _ _).mono ?_;rintro e a ⟨rfl,rfl⟩)
  rw[rounds_succ]
  go_wp2_with (go_at_call 28;refine(qbk _ _).mono ?_;rintro e a ⟨rfl,rfl⟩)
  rw[rounds_succ]
  go_wp2_with (go_at_call 28;refine(qbk _ _).mono ?_;rintro e a ⟨rfl,rfl⟩)
  go_ret;exact⟨rfl,by repeat (first|exact jcc _ _|apply jy|apply boxed)⟩
 have d:qi a2=true:=by simpa using d
 by_cases f:qi a3=false
 ·have e:jb a0 a1 a2 a3=false:=by simp[jb,f]
  rw[e];go_enter func178,ntmps178
  go_wp2
  refine wp_loop_rounds 5 ?_;rw[rounds_succ]
  go_wp2_with (go_at_call 28;refine(qbk _ _).mono ?_;rintro e a ⟨rfl,rfl⟩)
  rw[rounds_succ]
  go_wp2_with (go_at_call 28;refine(qbk _ _).mono ?_;rintro e a ⟨rfl,rfl⟩)
  rw[rounds_succ]
  go_wp2_with (go_at_call 28;refine(qbk _ _).mono ?_;rintro e a ⟨rfl,rfl⟩)
  rw[rounds_succ]
  go_wp2_with (go_at_call 28;refine(qbk _ _).mono ?_;rintro e a ⟨rfl,rfl⟩)
  go_ret;exact⟨rfl,by repeat (first|exact jcc _ _|apply jy|apply boxed)⟩
 have f:qi a3=true:=by simpa using f
 have e:jb a0 a1 a2 a3=true:=by simp[jb,b,c,d,f]
 rw[e];go_enter func178,ntmps178
 go_wp2
 refine wp_loop_rounds 5 ?_;rw[rounds_succ]
 go_wp2_with (go_at_call 28;refine(qbk _ _).mono ?_;rintro e a ⟨rfl,rfl⟩)
 rw[rounds_succ]
 go_wp2_with (go_at_call 28;refine(qbk _ _).mono ?_;rintro e a ⟨rfl,rfl⟩)
 rw[rounds_succ]
 go_wp2_with (go_at_call 28;refine(qbk _ _).mono ?_;rintro e a ⟨rfl,rfl⟩)
 rw[rounds_succ]
 go_wp2_with (go_at_call 28;refine(qbk _ _).mono ?_;rintro e a ⟨rfl,rfl⟩)
 rw[rounds_succ]
 go_wp2
 go_ret;exact⟨rfl,by repeat (first|exact jcc _ _|apply jy|apply boxed)⟩
theorem qcn {a0 a1 a2 a3:Int} {v:Bool} (h:jb a0 a1 a2 a3=v) (w:World):
 Ca 178 #[.agg #[U a0,U a1,U a2,U a3]] w (Rn (.bool v) w):=by
 subst h;exact qnt a0 a1 a2 a3 w
end
section
open Go.RowKit
def qa0 (n:Nat):Code->Option Code
 |.region id ops d=>if id=n then some (.region id ops d)else none
 |.seq x y=>match qa0 n x with
  |some c=>some c
  |none=>qa0 n y
 |.block _ c=>qa0 n c
 |.loop c=>qa0 n c
 |.cond _ x y=>match qa0 n x with
  |some c=>some c
  |none=>qa0 n y
 |_=>none
def qhj (n:Nat):Code->Bool
 |.region id _ _=>Nat.beq id n
 |.seq x _=>qhj n x
 |.block _ c=>qhj n c
 |.loop c=>qhj n c
 |_=>false
def qfn (n:Nat):Code->Option Code
 |.loop c=>match qhj n c with
  |true=>some (.loop c)
  |false=>qfn n c
 |.seq x y=>match qfn n x with
  |some c=>some c
  |none=>qfn n y
 |.block _ c=>qfn n c
 |.cond _ x y=>match qfn n x with
  |some c=>some c
  |none=>qfn n y
 |_=>none
def qfe (n:Nat):Code->Option Code
 |.seq x y=>match qhj n x with
  |true=>some (.seq x y)
  |false=>match qfe n x with
   |some c=>some c
   |none=>qfe n y
 |.block _ c=>qfe n c
 |.cond _ x y=>match qfe n x with
  |some c=>some c
  |none=>qfe n y
 |_=>none
variable {P:Program} {c:Code} {Q:Exit->Act->World->Prop} {a:Act} {w:World}
theorem q58 {x:Exit} (h:c.wp P (λe a w=>e=x/\Q x a w) a w):c.wp P Q a w:=
 wp_mono h (λe a w h=>by obtain⟨b,d⟩:=h;rw[b];exact d)
theorem qma {K:Act->World->Prop} (h:c.wp P (Exit.then K (λ_ _ _=>False)) a w):c.wp P (Exit.then K Q) a w:=
 wp_mono h (λe a w h=>by cases e<;>first|exact h|exact False.elim h)
end
section
open Go.RowKit
section
variable {w w2 w3 wE:World} {b g cap p q:Nat} {M:WoM} {W:WoS} {Gs:Nat->Nat->Prop}
theorem zh.snoc {n:Nat} {ps ps':Nat->qfr} {X X' G:Nat->Prop} {w w':World} (h:zh w n ps Gs X n NoY) (y:∀j k,j<n->Gs j k->w'.heap[k]?=w.heap[k]?) (z:w.heap.size<=w'.heap.size) (A:(ps' n).is w' G) (u:∀k,G k->w.heap.size<=k) (B:∀i,i<n->ps' i=ps i) (s:∀k,X' k->(X k\/w.heap.size<=k)/\k<w'.heap.size/\¬G k):zh w' (n+1) ps' (λj=>if j=n then G else Gs j) X' (n+1) NoY:=by
 refine⟨λj C=>?_,λa c k E F v l d=>?_,λk e=>⟨(s k e).2.1,λj C m=>?_⟩,λk e=>e.elim⟩
 ·by_cases e:j=n
  ·rw[if_pos e,e];exact A
  have f:j<n:=by omega
  rw[if_neg e,B j f];exact(ps j).kept _ _ _ (h.is j f) (λk D=>y j k f D) z
 ·by_cases t:a=n
  ·rw[if_pos t]at l;have o:c≠n:=λe=>v (t.trans e.symm);rw[if_neg o]at d;have:=(ps c).lt _ _ (h.is c (by omega)) k d;have:=u k l;omega
  rw[if_neg t]at l;by_cases o:c=n
  ·rw[if_pos o]at d;have:=(ps a).lt _ _ (h.is a (by omega)) k l;have:=u k d;omega
  rw[if_neg o]at d;exact h.apart a c k (by omega) (by omega) v l d
 by_cases x:j=n
 ·rw[if_pos x]at m;exact(s k e).2.2 m
 rw[if_neg x]at m
 have f:j<n:=by omega
 rcases(s k e).1 with r|r
 ·exact(h.free k r).2 j f m
 have:=(ps j).lt _ _ (h.is j f) k m;omega
theorem qm6 (bp:Nat->Nat) (x:Nat->Int) (n p:Nat) (y:Int) (a:x n=y):zt (λj=>if j=n then p else bp j) x (n+1)=zt bp x n++[PP p,U y]:=by
 unfold zt;rw[List.range_succ,List.flatMap_append]
 congr 1
 ·rw[List.flatMap_def,List.flatMap_def]
  congr 1
  refine List.map_congr_left (λj c=>?_);have:=List.mem_range.1 c;show qum (if j=n then p else bp j) (x j)=_;rw[if_neg (by omega)]
 simp[qum,a]
theorem PWo.addSite (h:PWo w b M W Gs) (D:W.c=0) (y:PS w2 p (λk=>k=p\/k=q) (W.S W.n)) (L:w.heap.size<=p) (N:w.heap.size<=q) (G:W.wall W.n=0) (z:Bw w w2) (m:Bw w2 w3)
 (own:wE.ownsRow 0 167 2 (.slice (PT g) (W.n+1) cap) (W.n+1) (zt M.bp W.wall W.n++[PP p,U 0])) (o:w3.grownBy wE M.pv.ownBlock) (E:M.pv.ownBlock=some g\/g=w3.heap.size) (O:g<wE.heap.size):
 PWo (wE.setCell (AD b 0) (.slice (PT g) (W.n+1) cap)) b {M with pv:=.slice (PT g) (W.n+1) cap,bp:=λj=>if j=W.n then p else M.bp j} {W with n:=W.n+1} (λj=>if j=W.n then (λk=>k=p\/k=q)else Gs j):=by
 have s2:=z.size;have s3:=m.size;have P:=o.size;have Q:=y.lt p (.inl rfl);have R:=y.lt q (.inr rfl);have T:=h.box.lt;have f:(Value.slice (PT g) (W.n+1) cap).ownBlock=some g:=rfl
 have i:(wE.setCell (AD b 0) (.slice (PT g) (W.n+1) cap)).heap.size=wE.heap.size:=by simp[World.setCell]
 have F:g≠b:=by
  rcases E with e|e
  ·exact λr=>h.sb.1 (by rw[e,r])
  omega
 have H:∀k,k<w.heap.size->M.pv.ownBlock≠some k->wE.heap[k]?=w.heap[k]?:=λk A B=>(o.block k (by omega) (λe=>B e.symm)).trans ((m.block k (by omega)).trans (z.block k A));have t:∀k,k<w.heap.size->M.pv.ownBlock≠some k->k≠b->(wE.setCell (AD b 0) (.slice (PT g) (W.n+1) cap)).heap[k]?=w.heap[k]?:=λk A B I=>(jce _ _ _ _ (λe=>I e)).trans (H k A B);have J:=λk e=>(h.pr.lt k e).2
 have C:∀k,g=k->(M.pv.ownBlock=some k\/w2.heap.size<=k):=λk e=>by
  rcases E with r|r
  ·exact .inl (by rw[r,e])
  exact .inr (by omega)
 have u:=h.fam;rw[D,Nat.add_zero]at u;refine⟨?_,?_,?_,?_,h.nl,λx a=>?_,?_,⟨λe=>F (by rw[f]at e;injection e),h.sb.2⟩,λk=>⟨λe=>?_,(h.sr k).2⟩,λx a=>?_⟩
 ·have K:=(((h.box.later z).later m)).grown o (λe=>h.sb.1 e.symm);exact K.set 0 _ (by simp)
 ·show World.ownsRow _ 0 _ 2 _ (W.n+1) (zt _ W.wall (W.n+1));rw[qm6 M.bp W.wall W.n p 0 G];exact qf own (λk e=>jce _ _ _ _ (λr=>F (by rw[f]at e;injection e with e;exact e.trans r)))
 ·exact qf h.cr (λk e=>t k (h.cr.lt k e).2 (λd=>((h.sr k).1 d).1 e) (λr=>h.sb.2.1 (by rw[e,r])))
 ·exact qf h.nr (λk e=>t k (h.nr.lt k e).2 (λd=>((h.sr k).1 d).2 e) (λr=>h.sb.2.2 (by rw[e,r])))
 ·have s:=h.sg x a;exact(h.gr x a).kept (t _ (h.gr x a).own.lt s.2.1 s.1) (by rw[i];omega)
 ·show zh _ (W.n+1+W.c) _ _ _ (W.n+1+W.c) NoY;rw[D,Nat.add_zero];refine u.snoc (λj k v e=>t k (h.ltG (by omega) e) (λr=>(u.free k (.inr (.inl r))).2 j v e) (λr=>(u.free k (.inl r)).2 j v e)) (by rw[i];omega) ?_ (λk e=>by rcases e with e|e<;>omega) (λj v=>?_) (λk e=>?_)
  ·show (if W.n<W.n+1 then qfp (if W.n=W.n then p else M.bp W.n) (W.S W.n)else _).is _ _;rw[if_pos (by omega),if_pos rfl];exact y.kept (λk e=>(jce _ _ _ _ (λr=>by rcases e with e|e<;>(have:k=b:=r;omega))).trans ((o.block k (by rcases e with e|e<;>omega) (λr=>by have:=J k r.symm;rcases e with e|e<;>omega)).trans (m.block k (by rcases e with e|e<;>omega)))) (by rw[i];omega)
  ·show (if j<W.n+1 then qfp (if j=W.n then p else M.bp j) (W.S j)else _)=(if j<W.n then _ else _);rw[if_pos (by omega),if_pos v,if_neg (by omega)]
  have l:qfw b M k->(qfw b M k\/w.heap.size<=k)/\k<(wE.setCell (AD b 0) (.slice (PT g) (W.n+1) cap)).heap.size/\¬(k=p\/k=q):=λe=>by
   have:=h.ltF k e;exact⟨.inl e,by rw[i];omega,by omega⟩
  rcases e with e|e|e|e|⟨x,a,e⟩
  ·exact l (.inl e)
  ·rw[f]at e;injection e with e;rcases C k e with r|r
   ·exact l (.inr (.inl r))
   exact⟨.inr (by omega),by rw[i];omega,by omega⟩
  ·exact l (.inr (.inr (.inl e)))
  ·exact l (.inr (.inr (.inr (.inl e))))
  exact l (.inr (.inr (.inr (.inr ⟨x,a,e⟩))))
 ·rw[f]at e;injection e with e;rcases C k e with r|r
  ·exact(h.sr k).1 r
  exact⟨λd=>by have:=(h.cr.lt k d).2;omega,λd=>by have:=(h.nr.lt k d).2;omega⟩
 have s:=h.sg x a;refine⟨s.1,λe=>?_,s.2.2⟩;rw[f]at e;injection e with e;rcases C x.blk e with r|r
 ·exact s.2.1 r
 have:=(h.gr x a).own.lt;omega
theorem PWo.addSes (h:PWo w b M W Gs) (C:PSe w2 p (λk=>k=p) (W.ses W.c)) (K:w.heap.size<=p) (F:W.at_ W.c=0) (y:Bw w w2) (m:Bw w2 w3)
 (own:wE.ownsRow 0 171 2 (.slice (PT g) (W.c+1) cap) (W.c+1) (zt M.bs (λk=>(W.at_ k:Int)) W.c++[PP p,U 0])) (o:w3.grownBy wE M.cv.ownBlock) (D:M.cv.ownBlock=some g\/g=w3.heap.size) (L:g<wE.heap.size):
 PWo (wE.setCell (AD b 1) (.slice (PT g) (W.c+1) cap)) b {M with cv:=.slice (PT g) (W.c+1) cap,bs:=λj=>if j=W.c then p else M.bs j} {W with c:=W.c+1} (λj=>if j=W.n+W.c then (λk=>k=p)else Gs j):=by
 have s2:=y.size;have s3:=m.size;have N:=o.size;have O:=C.lt p rfl;have P:=h.box.lt;have f:(Value.slice (PT g) (W.c+1) cap).ownBlock=some g:=rfl
 have i:(wE.setCell (AD b 1) (.slice (PT g) (W.c+1) cap)).heap.size=wE.heap.size:=by simp[World.setCell]
 have E:g≠b:=by
  rcases D with e|e
  ·exact λr=>h.sb.2.1 (by rw[e,r])
  omega
 have G:∀k,k<w.heap.size->M.cv.ownBlock≠some k->wE.heap[k]?=w.heap[k]?:=λk z A=>(o.block k (by omega) (λe=>A e.symm)).trans ((m.block k (by omega)).trans (y.block k z));have t:∀k,k<w.heap.size->M.cv.ownBlock≠some k->k≠b->(wE.setCell (AD b 1) (.slice (PT g) (W.c+1) cap)).heap[k]?=w.heap[k]?:=λk z A H=>(jce _ _ _ _ (λe=>H e)).trans (G k z A);have I:=λk e=>(h.cr.lt k e).2
 have u:∀k,g=k->(M.cv.ownBlock=some k\/w2.heap.size<=k):=λk e=>by
  rcases D with r|r
  ·exact .inl (by rw[r,e])
  exact .inr (by omega)
 have B:=h.fam;refine⟨?_,?_,?_,?_,h.nl,λx a=>?_,?_,⟨h.sb.1,λe=>E (by rw[f]at e;injection e),h.sb.2.2⟩,λk=>⟨λe=>⟨λd=>?_,((h.sr k).1 e).2⟩,λe=>?_⟩,λx a=>?_⟩
 ·have J:=(((h.box.later y).later m)).grown o (λe=>h.sb.2.1 e.symm);exact J.set 1 _ (by simp)
 ·exact qf h.pr (λk e=>t k (h.pr.lt k e).2 ((h.sr k).1 e).1 (λr=>h.sb.1 (by rw[e,r])))
 ·show World.ownsRow _ 0 _ 2 _ (W.c+1) (zt _ (λk=>(W.at_ k:Int)) (W.c+1));rw[qm6 M.bs (λk=>(W.at_ k:Int)) W.c p 0 (by show (W.at_ W.c:Int)=0;rw[F];rfl)];exact qf own (λk e=>jce _ _ _ _ (λr=>E (by rw[f]at e;injection e with e;exact e.trans r)))
 ·exact qf h.nr (λk e=>t k (h.nr.lt k e).2 (λd=>(h.sr k).2 d e) (λr=>h.sb.2.2 (by rw[e,r])))
 ·have s:=h.sg x a;exact(h.gr x a).kept (t _ (h.gr x a).own.lt s.2.2.1 s.1) (by rw[i];omega)
 ·show zh _ (W.n+W.c+1) _ _ _ (W.n+W.c+1) NoY;refine B.snoc (λj k v e=>t k (h.ltG v e) (λr=>(B.free k (.inr (.inr (.inl r)))).2 j v e) (λr=>(B.free k (.inl r)).2 j v e)) (by rw[i];omega) ?_ (λk e=>by omega) (λj v=>?_) (λk e=>?_)
  ·show (if W.n+W.c<W.n then _ else qix (if W.n+W.c-W.n=W.c then p else M.bs (W.n+W.c-W.n)) (W.ses (W.n+W.c-W.n))).is _ _;rw[if_neg (by omega),show W.n+W.c-W.n=W.c by omega,if_pos rfl];exact C.kept (λk e=>(jce _ _ _ _ (λr=>by have:k=b:=r;omega)).trans ((o.block k (by omega) (λr=>by have:=I k r.symm;omega)).trans (m.block k (by omega)))) (by rw[i];omega)
  ·show (if j<W.n then _ else qix (if j-W.n=W.c then p else M.bs (j-W.n)) (W.ses (j-W.n)))=(if j<W.n then _ else _);by_cases r:j<W.n
   ·rw[if_pos r,if_pos r]
   rw[if_neg r,if_neg r,if_neg (by omega)]
  have l:qfw b M k->(qfw b M k\/w.heap.size<=k)/\k<(wE.setCell (AD b 1) (.slice (PT g) (W.c+1) cap)).heap.size/\¬(k=p):=λe=>by
   have:=h.ltF k e;exact⟨.inl e,by rw[i];omega,by omega⟩
  rcases e with e|e|e|e|⟨x,a,e⟩
  ·exact l (.inl e)
  ·exact l (.inr (.inl e))
  ·rw[f]at e;injection e with e;rcases u k e with r|r
   ·exact l (.inr (.inr (.inl r)))
   exact⟨.inr (by omega),by rw[i];omega,by omega⟩
  ·exact l (.inr (.inr (.inr (.inl e))))
  exact l (.inr (.inr (.inr (.inr ⟨x,a,e⟩))))
 ·rw[f]at d;injection d with d;rcases u k d with r|r
  ·exact((h.sr k).1 e).1 r
  have:=(h.pr.lt k e).2;omega
 ·rw[f]at e;injection e with e;rcases u k e with r|r
  ·exact(h.sr k).2 r
  exact λd=>by have:=(h.nr.lt k d).2;omega
 have s:=h.sg x a;refine⟨s.1,s.2.1,λe=>?_,s.2.2.2⟩;rw[f]at e;injection e with e;rcases u x.blk e with r|r
 ·exact s.2.2.1 r
 have:=(h.gr x a).own.lt;omega
end
end
section
open Go.Shelf
def jem:Go.Shelf.Ren:=⟨λ|146=>14|221=>27|268=>72|138=>73|143=>74|195=>122|197=>123|218=>124|219=>121|260=>171|217=>167|225=>168|224=>169|267=>170|266=>226|314=>227|n=>n,λ|9=>9|31=>42|3=>3|4=>4|0=>0|105=>177|21=>21|5=>5|46=>190|119=>281|139=>284|138=>283|146=>279|51=>250|n=>n,λ|1=>1|3=>4|4=>5|n=>n⟩
theorem je2:Go.Proofs.Lays.n146 Tryz.prog jem:=by constructor<;>intros<;>kernel_rfl
open Go.RowKit Go.Lib in
theorem jee (s a:ByteArray) (m:Int) (w:World) (b:s.size<4294967281) (c:w.cell? (AD 1 0)=some (U m)) (d:1<=a.size):
 Ca 14 #[.string s,.string a] w λe w'=>
  e=.returned (.slice (PT w.heap.size) (Lib.countB s a+1) (Lib.countB s a+1))/\w'=w.alloc (.cells ((Lib.splitB a 0 (Lib.countB s a) s).map Value.string).toArray 9):=Any.strings_Split je2 (by kernel_rfl) s a m w b c d
end
section
open Tryz Go.RowKit Go.Maps Go.Sort Go.Shelf
def jea:Go.Shelf.Ren:=⟨λ|7=>108|10=>157|n=>n,λ|23=>55|26=>9|3=>65|28=>34|0=>0|27=>33|33=>24|4=>4|n=>n,λ|n=>n⟩
theorem jes:Go.Proofs.SlLaysZ.n7 prog jea:={
 mixed:=by kernel_rfl
 f7:=⟨f108.name,by decide,func108.trans (congrArg some (by kernel_rfl))⟩
 f10:=⟨f157.name,by decide,func157.trans (congrArg some (by kernel_rfl))⟩
 t0:=underlying0
 a0:=Tryz.isAgg0
 z0:=Tryz.sizeOf0
 v0:=Tryz.zeroValue0
 t4:=underlying4
 a4:=Tryz.isAgg4
 z4:=Tryz.sizeOf4
 v4:=Tryz.zeroValue4
 t23:=underlying55
 a23:=Tryz.isAgg55
 z23:=Tryz.sizeOf55
 v23:=Tryz.zeroValue55
 t26:=underlying9
 a26:=Tryz.isAgg9
 z26:=Tryz.sizeOf9
 v26:=Tryz.zeroValue9
 t27:=underlying33
 a27:=Tryz.isAgg33
 z27:=Tryz.sizeOf33
 v27:=Tryz.zeroValue33
 t28:=underlying34
 a28:=Tryz.isAgg34
 z28:=Tryz.sizeOf34
 v28:=Tryz.zeroValue34
 t33:=underlying24
 a33:=Tryz.isAgg24
 z33:=Tryz.sizeOf24
 v33:=Tryz.zeroValue24}
def jd6:Go.Shelf.Ren:=⟨λ|6=>107|8=>156|9=>92|11=>214|13=>133|12=>132|23=>194|24=>195|14=>185|15=>186|16=>187|17=>188|18=>189|19=>190|20=>191|21=>192|22=>193|25=>232|26=>233|27=>234|28=>235|29=>236|30=>237|31=>267|n=>n,λ|26=>9|28=>34|24=>42|0=>0|3=>3|37=>190|48=>250|50=>192|4=>4|40=>244|39=>243|45=>93|5=>5|9=>9|51=>289|55=>293|57=>327|58=>144|33=>24|n=>n,λ|n=>n⟩
theorem jeu:Go.Proofs.SlLaysZ.n6 prog jd6:={
 mixed:=by kernel_rfl
 f6:=⟨f107.name,by decide,func107.trans (congrArg some (by kernel_rfl))⟩
 f8:=⟨f156.name,by decide,func156.trans (congrArg some (by kernel_rfl))⟩
 f11:=⟨f214.name,by decide,func214.trans (congrArg some (by kernel_rfl))⟩
 t0:=underlying0
 a0:=Tryz.isAgg0
 z0:=Tryz.sizeOf0
 v0:=Tryz.zeroValue0
 t24:=underlying42
 a24:=Tryz.isAgg42
 z24:=Tryz.sizeOf42
 v24:=Tryz.zeroValue42
 t26:=underlying9
 a26:=Tryz.isAgg9
 z26:=Tryz.sizeOf9
 v26:=Tryz.zeroValue9
 t28:=underlying34
 a28:=Tryz.isAgg34
 z28:=Tryz.sizeOf34
 v28:=Tryz.zeroValue34
 i26:=by kernel_rfl}
def jet:Go.Shelf.Ren:=⟨λ|6=>92|8=>133|9=>132|19=>194|20=>195|21=>185|22=>186|23=>187|24=>188|25=>189|26=>190|27=>191|28=>192|29=>193|36=>232|31=>233|32=>234|37=>235|38=>236|39=>237|41=>267|n=>n,λ|27=>42|29=>9|3=>3|32=>190|26=>42|0=>0|44=>250|46=>192|4=>4|36=>244|35=>243|41=>93|5=>5|9=>9|53=>289|57=>293|63=>327|64=>144|n=>n,λ|n=>n⟩
theorem jev:Go.Proofs.SlLaysM.n6 prog jet:={
 mixed:=by kernel_rfl
 f6:=⟨f92.name,by decide,func92.trans (congrArg some (by kernel_rfl))⟩
 f8:=func133.trans (congrArg some (by kernel_rfl))
 f9:=⟨f132.name,by decide,func132.trans (congrArg some (by kernel_rfl))⟩
 f19:=func194.trans (congrArg some (by kernel_rfl))
 f20:=func195.trans (congrArg some (by kernel_rfl))
 f21:=⟨f185.name,by decide,func185.trans (congrArg some (by kernel_rfl))⟩
 f22:=⟨f186.name,by decide,func186.trans (congrArg some (by kernel_rfl))⟩
 f23:=⟨f187.name,by decide,func187.trans (congrArg some (by kernel_rfl))⟩
 f24:=⟨f188.name,by decide,func188.trans (congrArg some (by kernel_rfl))⟩
 f25:=⟨f189.name,by decide,func189.trans (congrArg some (by kernel_rfl))⟩
 f26:=⟨f190.name,by decide,func190.trans (congrArg some (by kernel_rfl))⟩
 f27:=⟨f191.name,by decide,func191.trans (congrArg some (by kernel_rfl))⟩
 f28:=⟨f192.name,by decide,func192.trans (congrArg some (by kernel_rfl))⟩
 f29:=⟨f193.name,by decide,func193.trans (congrArg some (by kernel_rfl))⟩
 f31:=func233.trans (congrArg some (by kernel_rfl))
 f32:=func234.trans (congrArg some (by kernel_rfl))
 f36:=⟨f232.name,by decide,func232.trans (congrArg some (by kernel_rfl))⟩
 f37:=⟨f235.name,by decide,func235.trans (congrArg some (by kernel_rfl))⟩
 f38:=⟨f236.name,by decide,func236.trans (congrArg some (by kernel_rfl))⟩
 f39:=⟨f237.name,by decide,func237.trans (congrArg some (by kernel_rfl))⟩
 f41:=⟨f267.name,by decide,func267.trans (congrArg some (by kernel_rfl))⟩
 t0:=underlying0
 a0:=Tryz.isAgg0
 z0:=Tryz.sizeOf0
 v0:=Tryz.zeroValue0
 t3:=underlying3
 a3:=Tryz.isAgg3
 z3:=Tryz.sizeOf3
 v3:=Tryz.zeroValue3
 t4:=underlying4
 a4:=Tryz.isAgg4
 z4:=Tryz.sizeOf4
 v4:=Tryz.zeroValue4
 t5:=underlying5
 a5:=Tryz.isAgg5
 z5:=Tryz.sizeOf5
 v5:=Tryz.zeroValue5
 t9:=underlying9
 a9:=Tryz.isAgg9
 z9:=Tryz.sizeOf9
 v9:=Tryz.zeroValue9
 t26:=underlying42
 a26:=Tryz.isAgg42
 z26:=Tryz.sizeOf42
 v26:=Tryz.zeroValue42
 t27:=underlying42
 a27:=Tryz.isAgg42
 z27:=Tryz.sizeOf42
 v27:=Tryz.zeroValue42
 t29:=underlying9
 a29:=Tryz.isAgg9
 z29:=Tryz.sizeOf9
 v29:=Tryz.zeroValue9
 t32:=underlying190
 a32:=Tryz.isAgg190
 z32:=Tryz.sizeOf190
 v32:=Tryz.zeroValue190
 t35:=underlying243
 a35:=Tryz.isAgg243
 z35:=Tryz.sizeOf243
 v35:=Tryz.zeroValue243
 t36:=underlying244
 a36:=Tryz.isAgg244
 z36:=Tryz.sizeOf244
 v36:=Tryz.zeroValue244
 t41:=underlying93
 a41:=Tryz.isAgg93
 z41:=Tryz.sizeOf93
 v41:=Tryz.zeroValue93
 t44:=underlying250
 a44:=Tryz.isAgg250
 z44:=Tryz.sizeOf250
 v44:=Tryz.zeroValue250
 t46:=underlying192
 a46:=Tryz.isAgg192
 z46:=Tryz.sizeOf192
 v46:=Tryz.zeroValue192
 t53:=underlying289
 a53:=Tryz.isAgg289
 z53:=Tryz.sizeOf289
 v53:=Tryz.zeroValue289
 t57:=underlying293
 a57:=Tryz.isAgg293
 z57:=Tryz.sizeOf293
 v57:=Tryz.zeroValue293
 t63:=underlying327
 a63:=Tryz.isAgg327
 z63:=Tryz.sizeOf327
 v63:=Tryz.zeroValue327
 t64:=underlying144
 a64:=Tryz.isAgg144
 z64:=Tryz.sizeOf144
 v64:=Tryz.zeroValue144}
theorem jey (m:Nat):AnyZ.SortsIn prog jd6 Fence.wide m:=
 ⟨λa b cap c W d e f=>callsIn_wide.2 (AnyM.slices_Sort_string jev a b cap c W d e f),
  λp cap W=>callsIn_wide.2 (AnyM.slices_Sort_string_none jev p cap W)⟩
theorem jef (mb:Option Nat) (W:World):CallsIn Fence.wide 5 prog 108 #[.map mb] W λe w'=>e=.returned (.func (.func 157) #[] #[PP W.heap.size])/\w'=W.alloc (.cells #[.map mb] 55):=
 AnyZ.keys_in jes Fence.wide 5 trivial rfl mb W
theorem jd3 {H:Type} (b d:Nat) (a:DataW H) (R:Value->Option (DataW H×List MemPlace)) (w:World) (f:w.ownsMap prog 9 R b d a) (g:Maps.size a<=maxLen) (h:Maps.size a*16<=140737488355328):
 CallsIn Fence.wide 5 prog 107 #[.func (.func 157) #[] #[PP w.heap.size]] (w.alloc (.cells #[.map (some b)] 55)) λe w'=>∃(v:Value) (c:List (List UInt8)),e=.returned v/\c.Perm (strKeys a)/\
  w'.ownsRow (w.alloc (.cells #[.map (some b)] 55)).heap.size 9 1 v c.length ((c.mergeSort (λx y=>decide (x<=y))).map encStr)/\(v=.slice none 0 0↔c=[])/\Below (w.alloc (.cells #[.map (some b)] 55)).heap.size (w.alloc (.cells #[.map (some b)] 55)) w':=by
 have i:=f.lt
 have j:SeqGives Fence.wide 2 prog 157 #[PP w.heap.size] encStr (λc=>c.Perm (strKeys a)) (Maps.size a) (w.alloc (.cells #[.map (some b)] 55)):=
  AnyZ.keys_gives (ρ:=jea) {jes with} Fence.wide _ trivial rfl (by omega) w.heap.size b d a _ (by simp) (by simp) (by
   obtain⟨k,l,m,n,o,p⟩:=f
   exact⟨k,l,(jdg _ _ b i).trans m,n,o,p⟩)
 exact AnyZ.sorted_in jeu Fence.wide 5 trivial trivial trivial trivial rfl (by omega) (jey _) (enters_of func92 (by kernel_rfl) rfl) 157 #[PP w.heap.size] trivial (enters_of func157 (by kernel_rfl) rfl) _ _ g h _ j
end
section
open Tryz Go.RowKit
def qht (B b:Nat) (l:List UInt8) (w:World) (G:Nat->Prop):Prop:=
 B<=b/\∃p v,(p=.pointer none\/p=.pointer (PT b))/\w.heap[b]?=some (.cells #[p,v] 32 (0,0))/\w.ownsRow B 5 1 v (Lib.byteCells l).length (Lib.byteCells l)/\v.ownBlock≠some b/\∀k,G k↔(k=b\/v.ownBlock=some k)
variable {B b:Nat} {l:List UInt8} {w:World} {G:Nat->Prop}
theorem qht.lt (h:qht B b l w G):∀k,G k->k<w.heap.size:=λk a=>by
 obtain⟨_,p,v,_,c,d,_,f⟩:=h;rcases(f k).1 a with rfl|e
 ·exact(jcs.1 c).1
 exact(d.lt k e).2
theorem qht.kept {w':World} (h:qht B b l w G) (c:∀k,G k->w'.heap[k]?=w.heap[k]?):qht B b l w' G:=by
 obtain⟨d,p,v,f,g,i,j,a⟩:=h;exact⟨d,p,v,f,(c b ((a b).2 (.inl rfl))).trans g,qf i (λk e=>c k ((a k).2 (.inr e))),j,a⟩
def q2z (B b:Nat) (l:List UInt8):qfr:=⟨λw G=>qht B b l w G,λ_ _ h=>h.lt,λ_ _ _ h hk _=>h.kept hk⟩
theorem qht.is (h:qht B b l w G):Lib.IsBuilder 32 5 B b (Lib.byteCells l) w:=by
 obtain⟨a,p,v,f,c,d,e,g⟩:=h;rcases f with rfl|rfl
 ·exact .inl ⟨a,v,c,d,e⟩
 exact .inr ⟨a,v,c,d,e⟩
theorem qt2:(prog.info? 5).map (λi=>(i.zero,i.size,i.bytes))=some (some (.int .u8 0),1,1):=by kernel_rfl
theorem qz6:(prog.info? 32).map (·.size)=some 2:=by kernel_rfl
theorem q8h:liesAt prog prog.depth 32 (2/prog.cellsOf 32) 0 32 1=true:=by kernel_rfl
theorem qpg (b:Nat) (w:World) (c:w.cell? (AD b 0)=some (PP b)):
 Ca 24 #[PP b] w λe w'=>e=.returned (.tuple #[])/\w'=w:=by
 obtain⟨j,a,_⟩:=Option.map_eq_some_iff.1 qz6;go_enter func24,ntmps24
 go_wp2
 rw[Lib.run_neq_ptr_same w _ underlying29 a]
 go_wp2
 go_end0;exact⟨rfl,rfl⟩
theorem qnp (b:Nat) (w:World) (f:w.cell? (AD b 0)=some (.pointer none)) (a:w.shape? b=some (32,2)) (g:w.frozen? (AD b 0)=false):
 Ca 24 #[PP b] w λe w'=>e=.returned (.tuple #[])/\w'=w.setCell (AD b 0) (PP b):=by
 obtain⟨j,c,d⟩:=Option.map_eq_some_iff.1 qz6;have h:=@run_callFunc_extern prog 69 _ Extern.AbiNoEscape.same func69 (by kernel_rfl) (by kernel_rfl) (by kernel_rfl) (by kernel_rfl);have i:=λx w=>Lib.run_noEscape (P:=prog) (w:=w) x;have k:=Lib.run_to_unsafe (P:=prog) w (AD b 0) underlying29 underlying117 c (by rw[d];decide) a (Nat.zero_lt_succ 1);have m:=Lib.run_from_unsafe (P:=prog) w (AD b 0) underlying117 underlying29 c a q8h;go_enter func24,ntmps24
 go_wp2
 go_end0;exact⟨rfl,rfl⟩
theorem qkv (w:World) (h:qht B b l w G):
 Ca 24 #[PP b] w λe w'=>e=.returned (.tuple #[])/\∃v,w'.heap[b]?=some (.cells #[PP b,v] 32 (0,0))/\w'.ownsRow B 5 1 v (Lib.byteCells l).length (Lib.byteCells l)/\v.ownBlock≠some b/\(∀k,G k↔(k=b\/v.ownBlock=some k))/\qc G w w':=by
 obtain⟨m,p,v,i,a,g,c,d⟩:=h;rcases i with rfl|rfl
 ·refine(qnp b w (by rw[Lib.cell_of_heap a];rfl) (by simp[World.shape?,a]) (Lib.frozen_of_heap a 0)).mono ?_;rintro e w' ⟨rfl,rfl⟩;refine⟨rfl,v,by simp[World.setCell,Array.getElem?_modify,a],qf g (λk e=>jce _ _ _ _ (λf=>c (by rw[e,f]))),c,d,rfl,rfl,rfl,by simp[World.setCell],λk _ j=>jce _ _ _ _ (λf=>j ((d k).2 (.inl f)))⟩
 refine(qpg b w (by rw[Lib.cell_of_heap a];rfl)).mono ?_;rintro e w' ⟨rfl,rfl⟩;exact⟨rfl,v,a,g,c,d,qc.ofBelow (jcc _ _)⟩
theorem q0u {g:List UInt8} {v v':Value} {a w2:World} (p:B<=b) (c:qc G w a) (d:∀k,G k↔(k=b\/v.ownBlock=some k))
 (m:w2.heap[b]?=some (.cells #[PP b,v] 32 (0,0))) (n:w2.ownsRow B 5 1 v' (Lib.byteCells g).length (Lib.byteCells g)) (q:∀k,v'.ownBlock=some k->v.ownBlock=some k\/a.heap.size<=k)
 (r:a.heap.size<=w2.heap.size/\w2.os=a.os/\w2.tape=a.tape/\w2.output=a.output/\∀k,k<a.heap.size->v.ownBlock≠some k->w2.heap[k]?=a.heap[k]?):
 qbi (q2z B b g) w G (w2.setCell (AD b 1) v'):=by
 have o:=Lib.ownBlock_ne n m (by decide);obtain⟨s,t,u,x,y⟩:=r;refine⟨λk=>k=b\/v'.ownBlock=some k,⟨p,PP b,v',.inr rfl,by simp[World.setCell,Array.getElem?_modify,m],qf n (λk e=>jce _ _ _ _ (λi=>o (by rw[e,i]))),o,λ_=>jdl⟩,λk f=>?_,?_⟩
 ·rcases f with rfl|e
  ·exact .inl ((d k).2 (.inl rfl))
  rcases q k e with h|h
  ·exact .inl ((d k).2 (.inr h))
  exact .inr (jcn c.size h)
 refine⟨t.trans c.os,u.trans c.tape,x.trans c.output,jcn c.size (by simp[World.setCell];exact s),λk f j=>?_⟩;rw[jce _ _ _ _ (λi=>j ((d k).2 (.inl i))),y k (jci f c.size) (λe=>j ((d k).2 (.inr e))),c.block k f j]
theorem qkw (a b:List UInt8):Lib.byteCells (a++b)=Lib.byteCells a++Lib.byteCells b:=by simp[Lib.byteCells]
theorem qfd (a:List UInt8):(Lib.byteCells a).length=a.length:=by simp[Lib.byteCells]
variable {P:Program}
theorem qqm (w:World) (r:Nat) (t u c e:TypeId) (i:TypeInfo) (d:P.underlying t=some (.slice e)) (f:P.underlying u=some .string) (hi:P.info? e=some i) (m:i.zero=some (.int .u8 0)) (h:i.size=1) (o:i.bytes=1)
 (v:Value) (n:Nat) (xs:List Value) (j:w.ownsRow r e 1 v n xs) (s:ByteArray) (x:n+s.size<=maxLen) (D:n+s.size<=140737488355328):
 ∃v' w',(Builtin.append_ #[t,u] c #[v,.string s]).run P w=.ok v' w'/\∀k,v'.ownBlock=some k->v.ownBlock=some k\/k=w.heap.size:=by
 have E:n+s.size<=9223372036854775807:=by simp only[maxLen]at x;omega
 have y:xs.length=n:=by simpa using j.1
 rcases j.2 with ⟨rfl,rfl⟩|⟨g,cap,cur,rfl,F,z,H,I,J,K⟩
 ·by_cases p:s.size=0
  ·refine⟨.slice none 0 0,w,?_,λk a=>.inl a⟩;have q:=Lib.run_firstCells_string (P:=P) w 1 s;rw[p]at q;simp[Builtin.append_,run_underlying d,run_underlying f,sizeOf,typeInfo,hi,h,Builtin.lenOf,p,q]
  exact⟨_,_,run_append_nil_string (P:=P) w t u c e i (.int .u8 0) d f hi m s (by omega) (by omega) (by rw[o];omega),λk a=>.inr (by simpa[Value.ownBlock,eq_comm]using a)⟩
 by_cases A:n+s.size<=cap
 ·exact⟨_,_,Lib.run_append_room_string (P:=P) w t u c e i d f hi h g n cap cur z s A (by omega),λk a=>.inl (by simpa[Value.ownBlock]using a)⟩
 have C:=j.cells (g:=g) rfl;exact⟨_,_,Lib.run_append_grow_string (P:=P) w t u c e i (.int .u8 0) d f hi m (AD g 0) n cap xs (by rw[h];simpa using y) C s (by omega) (by omega) (by rw[o];exact growslice_fits (by omega) (by omega)),λk a=>.inr (by simpa[Value.ownBlock,eq_comm]using a)⟩
theorem ql8 (w:World) {d:Array Oper} {rest:List Oper} {o:Oper} {a:Act} {Q:Exit->Act->World->Prop} (D:o.guard=none) (f x:Operand) (t u:TypeId)
 (E:o.op=.call {callee:=.builtin .append,args:=#[f,x],argTypes:=#[t,u]})
 (c:Nat) (e:TypeId) (i:TypeInfo) (g:P.underlying t=some (.slice e)) (j:P.underlying u=some .string) (hi:P.info? e=some i) (m:i.zero=some (.int .u8 0))
 (p:i.size=1) (q:i.bytes=1)
 (v:Value) (n:Nat) (xs:List Value) (F:a.eval f=v) (r:w.ownsRow c e 1 v n xs) (s:ByteArray) (H:a.eval x=.string s)
 (y:n+s.size<=maxLen) (z:n+s.size<=140737488355328) (I:c<=w.heap.size)
 (h:∀v' w',w'.ownsRow c e 1 v' (n+s.size) (xs++Lib.strCells s)->w.grownBy w' v.ownBlock->(∀k,v'.ownBlock=some k->v.ownBlock=some k\/k=w.heap.size)->wpList P d Q rest (a.put o.dst v') w'):wpList P d Q (o::rest) a w:=by
 refine wpList_plain D λK J=>?_;obtain⟨v',w',A,L,M,O⟩:=Lib.run_append_own_string (P:=P) w c t u o.type e i g j hi m p q v n xs r s y z I;obtain⟨R,w2,C,N⟩:=qqm (P:=P) w c t u o.type e i g j hi m p q v n xs r s y z;rw[A]at C;injection C with e1 e2;subst e1;unfold Oper.wp execOp;simp only[E,resolve,invoke,builtin,Sem.run_bind,Sem.run_pure,Result.andThen_ok,List.map_toArray,List.map_cons,List.map_nil,F,H,A];exact J _ _ (h v' w' L M N)
theorem qnq (s:ByteArray) (w:World) (h:qht B b l w G) (J:l.length+s.size<=140737488355328) (K:B<=w.heap.size):
 Ca 10 #[PP b,.string s] w λe w'=>e=.returned (.tuple #[U s.size,.nilIface])/\qbi (q2z B b (l++s.data.toList)) w G w':=by
 obtain⟨u,hi,x,y,z⟩:=info_parts qt2;have o:=qkv w h;have C:=hd1 h.1;clear h;go_enter func10,ntmps10
 go_wp2_with fail
 refine o.mono ?_;clear o;rintro e D ⟨rfl,v,c,p,q,r,f⟩
 have L:D.cell? (AD b 1)=some v:=by rw[Lib.cell_of_heap c];rfl
 go_wp2_with (at_builtin;refine ql8 _ rfl _ _ 30 9 rfl B 5 u underlying30 underlying9 hi x y z _ _ _ rfl p s rfl ?c3 ?c4 ?c5 ?_)
 case c3=>rw[qfd];unfold maxLen;omega
 case c4=>rw[qfd];omega
 case c5=>have:=f.size;omega
 intro v' w2 i a t;have E:=(jcs.1 c).1;have d:=(a.block b E (λe=>q e.symm)).trans c
 have M:w2.cell? (AD b 1)=some v:=by rw[Lib.cell_of_heap d];rfl
 have f1:=Lib.frozen_of_heap d 1
 obtain⟨j,m,cap,rfl⟩:∃j m cap,v'=.slice j m cap:=by
  rcases i.2 with ⟨n,_⟩|⟨g,cap,cur,n,_⟩
  ·exact⟨_,_,_,n⟩
  exact⟨_,_,_,n⟩
 have F:Hid (qbi (q2z B b (l++s.data.toList)) w G (w2.setCell (AD b 1) (.slice j m cap))):=
  q0u C.out f r d (by rw[qkw,jcl];simpa[Lib.strCells_length,Lib.strCells,Lib.byteCells]using i) (λk e=>(t k e).imp_right (λe=>by omega)) ⟨a.size,a.os,a.tape,a.output,λk H I=>a.block k H (λe=>I e.symm)⟩
 clear i a t r f p c q d
 go_wp2
 go_ret2;exact⟨rfl,F.out⟩
theorem qql (c:UInt8) (z:Int) (o:z=c.toNat) (w:World) (h:qht B b l w G) (O:l.length+1<=140737488355328) (Q:B<=w.heap.size):
 Ca 12 #[PP b,.int .u8 z] w λe w'=>e=.returned .nilIface/\qbi (q2z B b (l++[c])) w G w':=by
 obtain⟨D,hi,E,F,H⟩:=info_parts qt2;have p:=qkv w h;have I:=hd1 h.1;have J:=hd1 o;clear h o;go_enter func12,ntmps12
 go_wp2_with fail
 refine p.mono ?_;clear p;rintro e d ⟨rfl,v,f,q,r,s,n⟩;have K:=(jcs.1 f).1
 have t:d.cell? (AD b 1)=some v:=by rw[Lib.cell_of_heap f];rfl
 go_wp2_with (at_builtin;refine wpList_append_lies _ rfl _ _ 30 rfl B 5 D (.int .u8 0) 1 1 underlying30 hi E F H rfl (by decide) _ _ _ rfl (q.alloc _) (AD d.heap.size 0) 1 1 [.int .u8 z] rfl rfl ?t ?c2 (by decide) ?c3 ?c4 ?c5 _ rfl ?_)
 case t=>
  intro j u i
  match j,i with
  |0,i=>simp at i;subst i;simp[Addr.add]
 case c2=>intro u x;simp at x;subst x;rfl
 case c3=>rw[qfd];unfold maxLen;omega
 case c4=>rw[qfd];omega
 case c5=>have:=n.size;simp;omega
 intro g cap w2 y a C R
 have m:w2.heap[b]?=some (.cells #[PP b,v] 32 (0,0)):=by
  rw[a.block b (by simp;omega) (λe=>r e.symm),Lib.alloc_old d _ b K];exact f
 have S:w2.cell? (AD b 1)=some v:=by rw[Lib.cell_of_heap m];rfl
 have f1:=Lib.frozen_of_heap m 1
 have L:Hid (qbi (q2z B b (l++[c])) w G (w2.setCell (AD b 1) (.slice (PT g) ((Lib.byteCells l).length+1) cap))):=
  q0u I.out n s m (by rw[qkw,jcl];simpa[Lib.byteCells,J.out]using y) (λk e=>by
   simp[Value.ownBlock]at e;subst e;rcases C with h|h
   ·exact .inl h
   exact .inr (by rw[h];simp)) ⟨by have:=a.size;simp at this;omega,a.os,a.tape,a.output,λk M N=>(a.block k (by simp;omega) (λe=>N e.symm)).trans (Lib.alloc_old d _ k M)⟩
 clear y a C s n q f r m
 go_wp2
 go_ret;exact⟨rfl,L.out⟩
end
section
open Go.RowKit
def q6w {α:Type} (F:Fence) (n:Nat) (P:Program) (gf:Nat) (lb:Array Value) (encs:α->Array Value) (xs:List α) (N:World->Prop) (w0:World):Prop:=
 ∀(l:Nat) (J:List α->World->Prop) (W:World),Below w0.heap.size w0 W->(∀s A,J s A->N A)->(∀s A B,J s A->Below A.heap.size A B->J s B)->
  (∀pre x rest W,J pre W->xs=pre++x::rest->YieldAt F (n-1) P l (encs x) W λe W'=>e=.returned (.bool true)/\J (pre++[x]) W')->J [] W->
  CallsIn F n P gf (#[.func (.yield l) #[] #[]]++lb) W λe W'=>(∃v,e=.returned v)/\J xs W'
structure q56 (B:Nat) (W W':World):Prop where
 a:W'.heap[B]?=W.heap[B]?
 b:W'.heap[B+1]?=W.heap[B+1]?
def q9a {α:Type} (B:Nat) (I:List α->World->Prop) (xs:List α) (W:World):Exit->Act->World->Prop
 |.normal,_,W'=>q56 B W W'/\I xs W'
 |_,_,_=>False
theorem qli {F:Fence} {n:Nat} {P:Program} {α:Type} {g:Operand} {ps:Array Tmp} {assign body:Code} {Q:Exit->Act->World->Prop} {a:Act} {w:World}
 (hro:F.round=none) (h1:1<=n) {gf:Nat} {lb:Array Value} (hg:a.eval g=.func (.func gf) #[] lb) (hFg:F.fn gf) (eg:∀args w,(callFunc gf args).run P w=.ok (.enter gf args) w)
 {encs:α->Array Value} {xs:List α} {N:World->Prop} {w0:World} (hseq:q6w F (n-1) P gf lb encs xs N w0) (hb0:Below w0.heap.size w0 w) (hps:∀x,(encs x).size=ps.size)
 (I:List α->World->Prop) (hIN:∀s A,I s A->N A) (hIb:∀s A B,I s A->Below A.heap.size A B->I s B) (hIl:∀s A o,I s A->I s (A.putObj (w.heap.size+1) o)) (h0:I [] w) (a₁:α->Act)
 (hassign:∀(l:Nat) (x:α) (W:World) (K:Act->World->Prop),K (a₁ x) W->
   assign.wpIn (F.inRound l) (n-1-1) P (Exit.then K (λ_ _ _=>False)) {tmps:=(ps.zip (encs x)).foldl (λt (p,v)=>t.setIfInBounds p v) a.tmps,defers:=[]} W)
 (hbody:∀(l:Nat) (pre:List α) (x:α) (rest:List α) (W:World),xs=pre++x::rest->w.heap.size+2<=W.heap.size->I pre W->body.wpIn (F.inRound l) (n-1-1) P (q9a w.heap.size I (pre++[x]) W) (a₁ x) W)
 (hdone:∀(W:World),I xs W->W.heap[w.heap.size]?=some (.deferred (some []))->Q .normal {a with defers:={target:=.collected w.heap.size,args:=#[]}::a.defers} W):
 (Code.rangeFunc g ps assign body).wpIn F n P Q a w:=by
 refine wpIn_rangeFunc ?_
 intro fn hfn
 rw[hro]
 obtain⟨rec,hrec⟩:∃rec:LoopState->Option Code->Loop,rec=λst pe=>{state:=st,pending:=pe,fn,tmps:=a.tmps,params:=ps,assign,body,defers:=w.heap.size}:=⟨_,rfl⟩
 obtain⟨W1,hW1⟩:∃W1,(w.alloc (.deferred (some []))).alloc (.loop (rec .ready none))=W1:=⟨_,rfl⟩
 have hL1:W1.heap[w.heap.size+1]?=some (.loop (rec .ready none)):=by
  rw[<-hW1];have:=World.alloc_heap_new (w.alloc (.deferred (some []))) (.loop (rec .ready none));rwa [jdi]at this
 have hK1:W1.heap[w.heap.size]?=some (.deferred (some [])):=by
  rw[<-hW1];exact(jdg _ _ _ (by simp)).trans (World.alloc_heap_new w _)
 have hbw:Below w.heap.size w W1:=by rw[<-hW1];exact((jcc _ w).alloc (jcd _) _).alloc (by simp) _
 have hI1:I [] W1:=hIb _ _ _ h0 hbw
 have hb1:Below w0.heap.size w0 W1:=hb0.trans (hbw.mono hb0.size)
 refine⟨w.heap.size+1,[{target:=.collected w.heap.size,args:=#[]}],W1,{target:=.fn (.func gf) lb,args:=#[.func (.yield (w.heap.size+1)) #[] #[]]},W1,gf,
  #[.func (.yield (w.heap.size+1)) #[] #[]]++lb,W1,?_,?_,?_,?_,λ_=>h1,?_⟩
 ·rw[<-hW1,hrec];exact run_enterLoop_outer _ _ _ _ _
 ·simp only[resolve,hg]
  simp[go_sem]
 ·intro f' hf';simp[Target.leads]at hf';subst hf';exact hFg
 ·simp[invoke,go_sem,eg]
 ·have blk:∀{A B:World} {k:Nat} {o:Obj},Below A.heap.size A B->A.heap[k]?=some o->B.heap[k]?=some o:=λhb h=>(hb.block _ (jcs.1 h).1).trans h
  refine(hseq (w.heap.size+1)
   (λpre W=>I pre W/\W.heap[w.heap.size+1]?=some (.loop (rec .ready none))/\W.heap[w.heap.size]?=some (.deferred (some [])))
   W1 hb1 (λs A hs=>hIN s A hs.1) (λs A B hs hb=>⟨hIb s A B hs.1 hb,blk hb hs.2.1,blk hb hs.2.2⟩) ?_ ⟨hI1,hL1,hK1⟩).mono ?_
  ·rintro pre x rest W ⟨hi,hl,hk⟩ hx
   have hlt:w.heap.size+1<W.heap.size:=(jcs.1 hl).1
   have hy:=run_yield (P:=P) (args:=encs x) hl (by rw[hrec];exact hps x)
   rw[hrec]at hy
   refine⟨fn,_,assign,body,hy,roundIn_of_wpIn hfn (hassign _ x W _ ⟨_,run_beginRound hl (by rw[hrec]),?_⟩)⟩
   have hl2:(W.putObj (w.heap.size+1) (.loop {rec .ready none with state:=.busy})).heap[w.heap.size+1]?=some (.loop {rec .ready none with state:=.busy}):=World.putObj_heap_same hlt
   have hk2:(W.putObj (w.heap.size+1) (.loop {rec .ready none with state:=.busy})).heap[w.heap.size]?=some (.deferred (some [])):=(World.putObj_heap_other (by omega)).trans hk
   refine wpIn_mono (hbody _ pre x rest _ hx (by simp;omega) (hIl _ _ _ hi)) ?_
   rintro e a3 W3 hp
   cases e with
   |normal=>
    obtain⟨hk3,hi3⟩:=hp
    have hl3:=hk3.b.trans hl2
    have hr:=run_endRound (P:=P) none hl3
    rw[hrec]at hr
    exact⟨_,_,hr,rfl,hIl _ _ _ hi3,by rw[hrec];exact World.putObj_heap_same (jcs.1 hl3).1,(World.putObj_heap_other (by omega)).trans (hk3.a.trans hk2)⟩
   |ret=>exact hp.elim
   |exit id=>exact hp.elim
   |goto t=>exact hp.elim
   |panic ch=>exact hp.elim
   |outgrown=>exact hp.elim
  ·rintro e W2 ⟨⟨v,rfl⟩,hi,hl,hk⟩
   exact⟨none,_,by have:=run_endLoop (P:=P) hl (by rw[hrec];simp);rw[hrec]at this;exact this,hdone _ (hIl _ _ _ hi) ((World.putObj_heap_other (by omega)).trans hk)⟩
end
open Go.Shelf
def jen:Go.Shelf.Ren:=⟨λ|192=>44|190=>92|125=>133|258=>132|128=>194|129=>195|302=>185|303=>186|304=>187|305=>188|306=>189|307=>190|308=>191|309=>192|310=>193|333=>232|329=>233|330=>234|334=>235|335=>236|336=>237|344=>267|n=>n,λ|31=>42|0=>0|9=>9|3=>3|46=>190|51=>250|53=>192|4=>4|183=>244|182=>243|131=>93|5=>5|218=>289|222=>293|228=>327|229=>144|n=>n,λ|n=>n⟩
theorem jez:Go.Proofs.Lays.n192 Tryz.prog jen:=by constructor<;>intros<;>kernel_rfl
open Go.Sort Go.RowKit in
theorem jek (a c cap:Nat) (b:List (List UInt8)) (w:World) (d:Holds encStr w a c b.toArray) (f:a<w.heap.size) (g:b.length<4611686018427387904):
 Ca 44 #[.slice (some (AD a c)) b.length cap] w λe w'=>
  e=.returned (.tuple #[])/\∃n os,w'=grow (putRow encStr (Sort.ahead w n) a c (b.mergeSort λx y=>decide (x<=y)).toArray) os:=Any.sort_Strings jez a c cap b w d f g
end Go.Proofs.YtoanjdndmlffdaaGreatDoor
