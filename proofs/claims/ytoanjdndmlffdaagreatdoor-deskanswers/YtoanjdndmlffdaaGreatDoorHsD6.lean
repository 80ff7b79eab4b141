import Derived.Test.YtoanjdndmlffdaaGreatDoorHsD5
import Derived.Test.YtoanjdndmlffdaaGreatDoorSiteN
set_option maxHeartbeats 8000000
set_option maxRecDepth 1000000
namespace Go.Proofs.YtoanjdndmlffdaaGreatDoor
open Go.RowKit
variable {S:qe}
theorem RS.lens {w:World} {b:Nat} {G:Nat->Prop} {F:Nat->Option Obj} (h:RS w b G F S):∃a c e f,w.cell? (AD b 8)=some (.slice a S.waits.length c)/\w.cell? (AD b 9)=some (.slice e S.l.length f):=by
 obtain⟨lv,wv,sv,log,waits,d,o,j,_⟩:=h;obtain⟨a,c,k,_⟩:=qq d.rwait;obtain⟨e,f,m,_⟩:=qq d.own;have g:=d.box.cell 8 _ rfl;have i:=d.box.cell 9 _ rfl
 have n:waits.length=S.waits.length:=by rw[<-j];simp
 rw[k,n]at g;rw[m]at i;exact⟨a,c,e,f,g,i⟩
def qnu (S:qe):List ByteArray:=(List.range 8).map (λ(q:Nat)=>qdf S.a0 S.a1 S.a2 S.a3 S.l q)
theorem qov (S:qe):(qnu S).map (·.data.toList)=qc0 S:=by unfold qnu qc0;rw[List.map_map];rfl
theorem q2q {w':World} {B:Nat} {v:Value} (h:w'.ownsRow B 9 1 v 8 (qej S.a0 S.a1 S.a2 S.a3 S.l 8)) (f:∀x∈qnu S,x.data.toList.length<=13):∃b c,v=.slice (PT b) 8 c/\Ca 42 #[.slice (PT b) 8 c,.string ⟨#[32]⟩] w' λe w2=>e=.returned (.string (bya (Lib.join (qc0 S) [32])))/\Bw w' w2:=by
 obtain⟨b,c,rfl,r,i⟩:=h.form (by decide);have j:=h.cells (g:=b) rfl
 have k:8<=c:=by
  rcases h.2 with ⟨h,_⟩|⟨g',s,cur,m,_,_,n,_⟩
  ·cases h
  cases m;exact n
 have d:(qnu S).length=8:=by simp[qnu]
 have J:=jd1 b 0 c (qnu S) ⟨#[32]⟩ w' (λq y a=>by
  rw[Nat.zero_add]
  have:=j q (.string y) (by unfold qej;unfold qnu at a;rw[jcv]at a ⊢;cases hq:(List.range 8)[q]?with
   |none=>rw[hq]at a;cases a
   |some z=>rw[hq]at a;injection a with a;subst a;rfl)
  rcases Nat.eq_zero_or_pos q with rfl|o
  ·simpa[Addr.add]using this
  simpa[Addr.add,Nat.ne_of_gt o]using this) i (by rw[d];decide) (by rw[d];exact k) (by
  have:=qgl 13 ((qnu S).map (·.data.toList)) (λy a=>by obtain⟨x,p,rfl⟩:=jcz.1 a;exact f x p);rw[jdh,d]at this
  exact jcn this (by decide))
 rw[d]at J;rw[show (⟨#[32]⟩:ByteArray).data.toList=[32]from rfl,qov]at J;exact⟨b,c,rfl,J⟩
theorem q4a:yt 14:=λ{w w2 n0 H b j cap nc Gw G W a na l ns} u h hn hlen ht _ hN hb2=>by
 obtain⟨M,Gs,R,hG⟩:=(h.hs.later hb2).rw;obtain⟨x,rfl⟩:=qit hlen;simp[qx,qb8,thB,thC]at ht;obtain⟨k,rfl,m,hth,_⟩:=qac ht;obtain⟨g,rfl,hgB,hgl,q0⟩:=hN.cell 0 _ rfl;have hcap:=hN.cap;obtain⟨sg,sa,c0,l0,hsgl,xs⟩:=R.sitesAt m;have x0:=xs k m;have i:=h.wi.wf.inv k m;have hwt:=h.wi.wf.wt k m;have hlen2:=i.len;have hlog:=i.log;have hne:=qb.one;have HF0:Hid (∀w',Bw w w'->vl 14 W l w H G (.returned (.tuple #[.string (bya (qmb (W.S k))),U 0])) w'):=λw' I=>h.tell hn I ⟨rfl,by rw[if_pos hth];exact⟨rfl,rfl⟩⟩ (λ_=>rfl);have HW:=hd4 R (h.gl.later hb2) hb2 i;have L0:=qb.cell c0;have L1:=qb.cell x0;have L2:=qb.cell q0
 have hk4:k<4:=by have:=h.wi.wf.n4;omega
 clear h hn hb2 hlen ht hN R hth hG xs i
 conv=>arg 2;whnf
 unfold qa3
 go_upto_region 62 with fail
 refine wrl ?_
 repeat (go_big_quiet_step (first|rfl|fail))
 refine wpQuiet_nil ?_;rintro d ⟨⟨_,t⟩,rfl⟩;obtain⟨R,g0,hbw,i⟩:=HW.out;have z:=(R.laterW t).site m;obtain⟨K,L,N,O,bpl⟩:=z.applied;obtain⟨wa,wc,va,vc,b8,b9⟩:=z.lens;have B:=g0.later t
 have Q:∀x∈[(W.S k).a0,(W.S k).a1,(W.S k).a2,(W.S k).a3],wfI x:=λx c=>by
  simp at c;rcases c with rfl|rfl|rfl|rfl
  ·exact j1 i.a0
  ·exact j1 i.a1
  ·exact j1 i.a2
  exact j1 i.a3
 have C:∀x∈[((W.S k).waits.length:Int),((W.S k).l.length:Int)],wfI x:=λx c=>by
  simp at c;rcases c with rfl|rfl
  ·exact⟨by omega,by omega⟩
  exact⟨by omega,by omega⟩
 have V:∀x∈qnu (W.S k),x.data.toList.length<=13:=λx c=>by
  obtain⟨q,_,rfl⟩:=jcz.1 c;exact qno i.ok
 have D:Hid (∀w',Bw d w'->Ca 17 #[.slice (some (AD (M.bp k) 1)) 4 4] w' λe w2=>e=.returned (.string (bya (qv [(W.S k).a0,(W.S k).a1,(W.S k).a2,(W.S k).a3])))/\Bw w' w2):=λw' f=>
  qb7 (b:=M.bp k) (o:=1) (cap:=4) (l:=[(W.S k).a0,(W.S k).a1,(W.S k).a2,(W.S k).a3]) (by simp) (by simp) Q w' (B.later f) (jci bpl f.size) (λq x c=>by
   match q,c with
   |0,c=>injection c with c;subst c;exact cell_later f K
   |1,c=>injection c with c;subst c;exact cell_later f L
   |2,c=>injection c with c;subst c;exact cell_later f N
   |3,c=>injection c with c;subst c;exact cell_later f O)
 have X:Hid (∀w',Bw d w'->Ca 17 #[.slice (PT w'.heap.size) 2 2] (w'.alloc (.cells #[U ((W.S k).waits.length:Int),U ((W.S k).l.length:Int)] 3)) λe w2=>e=.returned (.string (bya (qv [((W.S k).waits.length:Int),((W.S k).l.length:Int)])))/\Below (w'.alloc (.cells #[U ((W.S k).waits.length:Int),U ((W.S k).l.length:Int)] 3)).heap.size (w'.alloc (.cells #[U ((W.S k).waits.length:Int),U ((W.S k).l.length:Int)] 3)) w2):=λw' f=>
  qb7 (b:=w'.heap.size) (o:=0) (cap:=2) (l:=[((W.S k).waits.length:Int),((W.S k).l.length:Int)]) (by simp) (by simp) C _ (B.later (boxed f _)) (by simp) (qee (w:=w') (T:=3) [((W.S k).waits.length:Int),((W.S k).l.length:Int)])
 have Y:Bw d (d.alloc (.cells #[U ((W.S k).waits.length:Int),U ((W.S k).l.length:Int)] 3)).drew:=(boxed (jcc _ d) _).drew;have hd3:Bw d d.drew:=(jcc _ d).drew
 have Z:Hid (∀w',Below (d.alloc (.cells #[U ((W.S k).waits.length:Int),U ((W.S k).l.length:Int)] 3)).drew.heap.size (d.alloc (.cells #[U ((W.S k).waits.length:Int),U ((W.S k).l.length:Int)] 3)).drew w'->Ca 17 #[.slice (PT d.heap.size) 2 2] w' λe w2=>e=.returned (.string (bya (qv [((W.S k).waits.length:Int),((W.S k).l.length:Int)])))/\Bw w' w2):=λw' f=>
  qb7 (b:=d.heap.size) (o:=0) (cap:=2) (l:=[((W.S k).waits.length:Int),((W.S k).l.length:Int)]) (by simp) (by simp) C _ (B.later (qa Y f)) (jci (by simp) f.size) (λq x c=>cell_later f (qee (w:=d) (T:=3) [((W.S k).waits.length:Int),((W.S k).l.length:Int)] q x c))
 have TD:Hid (∀w',Bw d w'->Ca 43 #[.pointer (some (AD (M.bp k) 9)),.agg #[U (W.S k).a0,U (W.S k).a1,U (W.S k).a2,U (W.S k).a3]] w' λe w2=>∃n p,e=.returned (.slice (PT n) 8 p)/\Hid (Ca 42 #[.slice (PT n) 8 p,.string ⟨#[32]⟩] w2 λe d=>e=.returned (.string (bya (Lib.join (qc0 (W.S k)) [32])))/\Bw w2 d)/\Bw w' w2):=λw' f=>
  (q3z (W.S k).a0 (W.S k).a1 (W.S k).a2 (W.S k).a3 w' (z.later f) i).mono λe w2 ⟨v,he,ho,H⟩=>by
   obtain⟨n,p,rfl,J⟩:=q2q ho V;exact⟨n,p,he,J,H⟩
 have l1:(qv [(W.S k).a0,(W.S k).a1,(W.S k).a2,(W.S k).a3]).length<=88:=by have:=ze Q;simpa using this
 have l2:(qv [((W.S k).waits.length:Int),((W.S k).l.length:Int)]).length<=44:=by have:=ze C;simpa using this
 have l3:(Lib.join (qc0 (W.S k)) [32]).length<=112:=by
  have:=qgl 13 ((qnu (W.S k)).map (·.data.toList)) (λy hy=>by obtain⟨x,c,rfl⟩:=jcz.1 hy;exact V x c);rw[jdh,show (qnu (W.S k)).length=8 by simp[qnu],qov]at this;exact this
 have r:=hd1 (λw' I=>by
  have:=HF0.out w' I
  rw[show bya (qmb (W.S k))=bya (qv [(W.S k).a0,(W.S k).a1,(W.S k).a2,(W.S k).a3])++⟨#[44,32]⟩++bya (qv [((W.S k).waits.length:Int),((W.S k).l.length:Int)])++⟨#[44,32]⟩++bya (Lib.join (qc0 (W.S k)) [32]) by
   rw[show (⟨#[44,32]⟩:ByteArray)=bya [44,32]from rfl,jz,jz,jz,jz];rfl]at this
  exact this)
 obtain⟨s1,hs1⟩:∃s,bya (qv [(W.S k).a0,(W.S k).a1,(W.S k).a2,(W.S k).a3])=s:=⟨_,rfl⟩;obtain⟨s2,hs2⟩:∃s,bya (qv [((W.S k).waits.length:Int),((W.S k).l.length:Int)])=s:=⟨_,rfl⟩;obtain⟨s3,hs3⟩:∃s,bya (Lib.join (qc0 (W.S k)) [32])=s:=⟨_,rfl⟩
 have z1:s1.size<=88:=by rw[<-hs1,zo];exact l1
 have z2:s2.size<=44:=by rw[<-hs2,zo];exact l2
 have z3:s3.size<=112:=by rw[<-hs3,zo];exact l3
 have zc:(⟨#[44,32]⟩:ByteArray).size=2:=rfl;have A1:=λw=>qfi (P:=Tryz.prog) s1 ⟨#[44,32]⟩ (by omega) w;have A2:=λw=>qfi (P:=Tryz.prog) (s1++⟨#[44,32]⟩) s2 (by rw[jc4];omega) w;have A3:=λw=>qfi (P:=Tryz.prog) (s1++⟨#[44,32]⟩++s2) ⟨#[44,32]⟩ (by rw[jc4,jc4];omega) w;have A4:=λw=>qfi (P:=Tryz.prog) (s1++⟨#[44,32]⟩++s2++⟨#[44,32]⟩) s3 (by rw[jc4,jc4,jc4];omega) w;rw[hs1]at D r;rw[hs2]at X Z r;rw[hs3]at TD r;have HX:=hd1 (qa hbw t);clear l1 l2 l3 Q C V HF0 R g0 hbw i z B HW L0 L1 L2 c0 x0 q0 t hs1 hs2 hs3 z1 z2 z3 zc
 go_upto_region 63 with fail
 have X1:=λ(w':World) (h:Bw d w')=>cell_later h K;have X2:=λ(w':World) (h:Bw d w')=>cell_later h L;have X3:=λ(w':World) (h:Bw d w')=>cell_later h N;have X4:=λ(w':World) (h:Bw d w')=>cell_later h O;have X8:=λ(w':World) (h:Bw d w')=>cell_later h b8;have X9:=λ(w':World) (h:Bw d w')=>cell_later h b9;clear K L N O b8 b9
 go_region_held3 (λw'=>Bw d w') ((repeat (first|(with_reducible assumption)|(with_reducible refine boxed ?_ _)|(with_reducible refine jc6 ?_)|(with_reducible exact jcc _ _)))) (first
  |(go_at_call 17;(with_reducible refine(D.out d.drew hd3).mono ?_);rintro e w4 ⟨rfl,E⟩;have F:=qa hd3 E)
  |(go_at_call 17;(with_reducible refine(D.out (d.alloc (.cells #[U ((W.S k).waits.length:Int),U ((W.S k).l.length:Int)] 3)).drew Y).mono ?_);rintro e w4 ⟨rfl,E⟩;have F:=qa Y E)
  |(go_at_call 17;(with_reducible refine(X.out w4 F).mono ?_);rintro e w5 ⟨rfl,hb5⟩;have hb53:=qa (boxed F _) hb5)
  |(go_at_call 17;(with_reducible refine(Z.out w4 E).mono ?_);rintro e w5 ⟨rfl,hb5⟩;have hb53:=qa F hb5)
  |(go_at_call 43;(with_reducible refine(TD.out w5 hb53).mono ?_);rintro e w6 ⟨n,p,rfl,hJ,hb6⟩;have hb63:=qa hb53 hb6)
  |(go_at_call 42;(with_reducible refine hJ.out.mono ?_);rintro e w7 ⟨rfl,hb7⟩;have hb73:=qa hb63 hb7;have HF2:=r.out w7 (qa HX.out hb73)))
 all_goals
  clear D X Z TD r A1 A2 A3 A4 X1 X2 X3 X4 X8 X9
  go_wp2
  go_ret2;exact HF2
end Go.Proofs.YtoanjdndmlffdaaGreatDoor
