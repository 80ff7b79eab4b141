import Derived.Test.YtoanjdndmlffdaaGreatDoorSiteQ
set_option maxHeartbeats 8000000
set_option maxRecDepth 1000000
namespace Go.Proofs.YtoanjdndmlffdaaGreatDoor
open Go.RowKit
variable {w:World} {b:Nat}
theorem RSe.row {G:Nat->Prop} {s:qy} (h:RSe w b G s):∃wv,qd w b (jr s wv):=by
 obtain⟨wv,h,_⟩:=h;exact⟨wv,h.box⟩
theorem qyz {o:Nat} {a:List Value} {p0 p1 p2 p3:Int} (R:qd w b a) (h:∀(q:Nat) x,[p0,p1,p2,p3][q]?=some x->a[o+q]?=some (U x)) (d:∀x∈[p0,p1,p2,p3],wfI x) (w':World) (g:Gl w') (c:Bw w w'):
 Ca 17 #[.slice (some (AD b o)) 4 4] w' λe w2=>e=.returned (.string (bya (qv [p0,p1,p2,p3])))/\Bw w' w2:=
 qb7 (b:=b) (o:=o) (cap:=4) (l:=[p0,p1,p2,p3]) (by simp) (by simp) d w' g (jci R.lt c.size) (λq x f=>(R.later c).cell _ _ (h q x f))
theorem qzs:yt 4:=λ{w w2 n0 hb b j cap nc Gw G W a na l ns} u h hn hlen ht _ hN hb2=>by
 obtain⟨M,Gs,R,hG⟩:=(h.hs.later hb2).rw;obtain⟨x,rfl⟩:=qit hlen;simp[qx,qb8,thB,thC]at ht;obtain⟨k,rfl,y,N,_⟩:=qac ht;obtain⟨g,rfl,hgB,hgl,D⟩:=hN.cell 0 _ rfl;have hcap:=hN.cap;have ha:=h.wi.wf.at_ k y;have h4:=h.wi.wf.n4;obtain⟨cg,ca,ag,aa,sg,sa,C⟩:=R.cliAt y ha;obtain⟨wv,m⟩:=(R.sess y).row;have d:=h.di.ses k y;have hne:=qb.one;have z:Hid (qsi W k=qv [(W.at_ k:Int)]++[44,32]++qv [(W.ses k).p0,(W.ses k).p1,(W.ses k).p2,(W.ses k).p3]++if (W.ses k).opn=true then [44,32]++qv [(W.ses k).s0,(W.ses k).s1,(W.ses k).s2,(W.ses k).s3]else []):=rfl;have r:Hid (∀w',Bw w w'->vl 4 W l w hb G (.returned (.tuple #[.string (bya (qsi W k)),U 0])) w'):=λw' hb'=>h.tell hn hb' ⟨rfl,by rw[if_pos N];exact⟨rfl,rfl⟩⟩ (λ_=>rfl);obtain⟨⟨p0,p1,p2,p3,opn,s0,s1,s2,s3,ws⟩,O⟩:∃s,W.ses k=s:=⟨_,rfl⟩;rw[O]at m d z
 dsimp only at z
 rw[z.out]at r
 have Q:∀x∈[p0,p1,p2,p3],wfI x:=λx c=>by
  simp at c;rcases c with rfl|rfl|rfl|rfl
  ·exact j1 d.p0
  ·exact j1 d.p1
  ·exact j1 d.p2
  exact j1 d.p3
 have S:∀x∈[s0,s1,s2,s3],wfI x:=λx c=>by
  simp at c;rcases c with rfl|rfl|rfl|rfl
  ·exact j1 d.s0
  ·exact j1 d.s1
  ·exact j1 d.s2
  exact j1 d.s3
 have V:=hd5 Q S (show qd w2 (M.bs k) [U p0,U p1,U p2,U p3,U s0,U s1,U s2,U s3,.bool opn,wv]from m) (h.gl.later hb2) hb2;have l2:=qb.cell C.c2;have m2:=qb.cell C.x2;have y0:=qb.cell D;have g2:=C.l2;have g3:=C.l3;have X:=C.c3;have Y:=C.x3;clear h hn hb2 hlen ht hN R N C hG d m O Q S z
 conv=>arg 2;whnf
 unfold qa3
 go_upto_region 65 with fail
 refine wrl ?_
 repeat (go_big_quiet_step (first|rfl|fail))
 refine wpQuiet_nil ?_;rintro n ⟨⟨_,f⟩,rfl⟩;obtain⟨E,F,m,B,Z⟩:=V.out;have p:=m.later f;have n0':=cell_later f D;have e3':=cell_later f X;have f3':=cell_later f Y;have c8:=p.cell 8 _ rfl;have ab:=qa Z f;have H:Bw n ((n.alloc (.cells #[U (W.at_ k:Int)] 3)).drew):=(boxed (jcc _ n) _).drew;have I:=qb7 (b:=n.heap.size) (o:=0) (cap:=1) (l:=[(W.at_ k:Int)]) (by simp) (by simp) (λx c=>by simp at c;subst c;exact⟨by omega,by omega⟩) ((n.alloc (.cells #[U (W.at_ k:Int)] 3)).drew) ((B.later f).later H) (by simp) (qee (w:=n) (T:=3) [(W.at_ k:Int)])
 dsimp only[List.length_cons,List.length_nil,Nat.reduceAdd]at I
 have J:=hd1 (λw' t=>qyz (o:=0) p (λq x c=>by match q,c with|0,c=>exact(by simpa using c)|1,c=>exact(by simpa using c)|2,c=>exact(by simpa using c)|3,c=>exact(by simpa using c)) E w' ((B.later f).later t) t);have K:=hd1 (λw' t=>qyz (o:=4) p (λq x c=>by match q,c with|0,c=>exact(by simpa using c)|1,c=>exact(by simpa using c)|2,c=>exact(by simpa using c)|3,c=>exact(by simpa using c)) F w' ((B.later f).later t) t)
 have l1:(qv [(W.at_ k:Int)]).length<=22:=by have:=ze (l:=[(W.at_ k:Int)]) (λx c=>by simp at c;subst c;exact⟨by omega,by omega⟩);simpa using this
 have ll2:(qv [p0,p1,p2,p3]).length<=88:=by have:=ze E;simpa using this
 have ll3:(qv [s0,s1,s2,s3]).length<=88:=by have:=ze F;simpa using this
 have A1:=λw=>qfi (P:=Tryz.prog) (bya (qv [(W.at_ k:Int)])) ⟨#[44,32]⟩ (by simp[zo];omega) w;have A2:=λw=>qfi (P:=Tryz.prog) (bya (qv [(W.at_ k:Int)])++⟨#[44,32]⟩) (bya (qv [p0,p1,p2,p3])) (by simp[zo];omega) w;have A3:=λw=>qfi (P:=Tryz.prog) ⟨#[44,32]⟩ (bya (qv [s0,s1,s2,s3])) (by simp[zo];omega) w;have A4:=λw=>qfi (P:=Tryz.prog) (bya (qv [(W.at_ k:Int)])++⟨#[44,32]⟩++bya (qv [p0,p1,p2,p3])) (⟨#[44,32]⟩++bya (qv [s0,s1,s2,s3])) (by simp[zo];omega) w;have L:=hd2 ab p;have bsl:=p.lt;have hgl3:=jci hgl f.size;clear l1 ll2 ll3 E F m B Z p D X Y y0 l2 m2 V f ab
 go_upto_region 66 with fail
 go_region_with (first|(go_at_call 17;(with_reducible refine I.mono ?_);rintro e w4 ⟨rfl,hb4⟩;have ac:=qa H hb4;have ad:=J.out w4 ac)|(go_at_call 17;(with_reducible refine ad.mono ?_);rintro e w5 ⟨rfl,hb5⟩;have v:=qa ac hb5))
 all_goals
  have c8':=(L.out.2.later v).cell 8 _ rfl;have bsl5:=jci bsl v.size;clear I ad H n0' e3' f3' c8;cases opn
  ·have i:=r.out w5 (qa L.out.1 v);rw[if_neg (by simp)]at i
   rw[show bya (qv [(W.at_ k:Int)]++[44,32]++qv [p0,p1,p2,p3]++[])=bya (qv [(W.at_ k:Int)])++⟨#[44,32]⟩++bya (qv [p0,p1,p2,p3]) by
        rw[show (⟨#[44,32]⟩:ByteArray)=bya [44,32]from rfl,jz,jz];simp]at i
   clear J K r A1 A2 A3 A4
   go_wp2
   go_ret2;exact i
  have BL3:=K.out w5 v
  go_wp2_with fail
  refine BL3.mono ?_;rintro e w6 ⟨rfl,hb6⟩;have i:=r.out w6 (qa (qa L.out.1 v) hb6);rw[if_pos (by trivial)]at i
  rw[show bya (qv [(W.at_ k:Int)]++[44,32]++qv [p0,p1,p2,p3]++([44,32]++qv [s0,s1,s2,s3]))=bya (qv [(W.at_ k:Int)])++⟨#[44,32]⟩++bya (qv [p0,p1,p2,p3])++(⟨#[44,32]⟩++bya (qv [s0,s1,s2,s3])) by
   rw[show (⟨#[44,32]⟩:ByteArray)=bya [44,32]from rfl,jz,jz,jz,jz]]at i
  clear J K r BL3
  go_wp2
  go_ret2;exact i
end Go.Proofs.YtoanjdndmlffdaaGreatDoor
