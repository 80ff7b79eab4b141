import Derived.Test.YtoanjdndmlffdaaGreatDoorSiteC
set_option maxHeartbeats 16000000
set_option maxRecDepth 100000
namespace Go.Proofs.YtoanjdndmlffdaaGreatDoor
open Go.RowKit
variable {w:World} {b:Nat}
theorem qc4 {tmps:Array Value} {x0 x1 x2 x3 d e f g:Int} {ev:Value} {a:Option Addr} {n c:Nat} (h:qd w b (T9 x0 x1 x2 x3 d e f g a n c)) (i:tmps[6]?=some (PP b)) (j:tmps[7]?=some ev):
 (results Tryz.f150 tmps).run Tryz.prog w=.ok (.tuple #[.agg (List.toArray (T9 x0 x1 x2 x3 d e f g a n c)),ev]) w:=by
 obtain⟨k,l,m,o,p,q,r,s,t⟩:=h.c9;simp[results,Tryz.results150,go_sem,i,j,k,l,m,o,p,q,r,s,t]
variable {G:Nat->Prop}
theorem qc8.left {w':World} {a:qy} (h:qc8 w b G a w'):qbi (qix b a) w G w':=h
theorem qol {E:Nat} {X:Nat->Prop} {s:qy} {S:qe} (now:Int) (w:World) (h:PSe w b G s) (hS:PS w E X S) (hI:j3 S) (hd:∀k,G k->¬X k):
 Ca 150 #[PP b,PP E,U now] w (q33 w b E G X S s now):=by
 have B:=hd7 h hS hI hd h.own h.lt hS.lt;obtain⟨mv,h0,hm⟩:=h;have hb1:=boxed (jcc _ w) (.cells ZA 102);have RT:=qd.new (w:=w) (T:=102) ZL rfl;change qd (w.alloc (.cells ZA 102)) w.heap.size ZL at RT
 have HN2:Hid (∀(y:World),w.heap.size<y.heap.size->∀k,k=w.heap.size->w.heap.size<=k/\k<y.heap.size):=λy hA k e=>by omega
 have B1:=h0.later hb1;have k4:=B1.cell 4 _ rfl;rcases hm with ⟨ho,rfl,_,_⟩|⟨ho,bm,rfl,hne,hM,hG⟩
 ·rw[ho]at k4;have H:Hid (qeg S s now=6/\qce S s now=tx0.t/\qcc S s now=S/\j0 S s now=s):=qmm ho;clear hS hI hd h0 B1 ho;go_enter Tryz.func150,Tryz.ntmps150
  go_wp2_with fail
  refine bodyPost_ret (qc4 RT rfl rfl) rfl ⟨tx0,by rw[H.out.1];rfl,H.out.2.1.symm,⟨qk4 _,qtr (Z:=NoY) ?_ qfb⟩⟩;rw[H.out.2.2.1,H.out.2.2.2];exact qod (p:=qix b s) (q:=qfp E S) B.out.1 B.out.2.1 B.out.2.2.2.1 hb1 _ (λ_ K=>K)
 rw[ho]at k4;have HO:=hd1 ho;have M1:=hM.later hb1;have LEN:=M1.len;have k9:=B1.cell 9 _ rfl;by_cases hl:(jh s.ws).length=0
 ·have H:Hid (qeg S s now=0/\qce S s now=tx0.t/\qcc S s now=S/\j0 S s now=qc3 s):=qml HO.out hl;rw[hl]at LEN;have EN:=qom (w.alloc (.cells ZA 102)) (B.out.1.later hb1);clear hS hI hd h0 B1 ho M1 hM hl;go_enter Tryz.func150,Tryz.ntmps150
  go_wp2_with fail
  refine EN.mono ?_;rintro e wD ⟨rfl,hpo⟩;have HPO:=hd1 hpo;obtain⟨G',_,_,tD⟩:=hpo;have RTD:=RT.kept (tD.block _ RT.lt (λe=>by have:=B.out.2.2.2.2.2.1 _ e;omega)) tD.size;clear tD EN k4 k9 LEN;obtain⟨r0,r1,r2,r3,r4,r5,r6,r7,r8⟩:=RTD.c9;obtain⟨p0,p1,p2,p3,p4,p5,p6,p7,p8⟩:=RTD.f9;have RZ:=yz RTD rfl 0 0 0 0 0 0 0 0 (.slice none 0 0);have FIN:=qid (p:=qix b (qc3 s)) (q:=qfp E S) (Y:=NoY) (N:=λk=>k=w.heap.size) B.out.2.2.2.2.2.1 B.out.2.2.2.2.2.2 B.out.2.2.2.1 hb1 (HN2.out _ (by simp)) (PPo.same (B.out.2.1.later hb1) (jcc _ _)) (λk K=>K.elim) (qc.ofBelow (jcc _ _)) HPO.out.left (qaz (b:=w.heap.size) (F:=λk=>k=w.heap.size) (qc.ofBelow (jcc _ wD)) rfl 0 0 0 0 0 0 0 0 (.slice none 0 0));clear RTD RT HPO
  go_wp2_with fail
  refine bodyPost_ret (qc4 RZ rfl rfl) rfl ⟨tx0,by rw[H.out.1];rfl,H.out.2.1.symm,⟨qk4 _,qtr (Z:=NoY) ?_ qfb⟩⟩;rw[H.out.2.2.1,H.out.2.2.2];exact FIN.1
 have HY:Hid (qeg S s now=qfl S now s.s0 s.s1 s.s2 s.s3 (jh s.ws)/\qce S s now=qha S now s.s0 s.s1 s.s2 s.s3 (jh s.ws)/\qcc S s now=qf3 S now s.s0 s.s1 s.s2 s.s3 (jh s.ws)):=qjx HO.out hl;have HLN:Hid ((jh s.ws).length≠0):=hl
 have l0:¬(((jh s.ws).length:Int)=0):=by omega
 have l1:((((jh s.ws).length:Int))==0)=false:=by simpa using l0
 obtain⟨⟨a,f,j,l,o,r,u,x,i⟩,hct⟩:∃t,qha S now s.s0 s.s1 s.s2 s.s3 (jh s.ws)=t:=⟨_,rfl⟩;obtain⟨ce,hce⟩:∃ce,qfl S now s.s0 s.s1 s.s2 s.s3 (jh s.ws)=ce:=⟨_,rfl⟩;have HB0:=hd2 h0 hM
 have HW1:Hid ((w.alloc (.cells ZA 102)).heap.size=w.heap.size+1):=by show _=_;simp
 have hbR:=(jcc (w.alloc (.cells ZA 102)).heap.size (w.alloc (.cells ZA 102))).drew;have hbS:=boxed hbR (.cells ZA 102);have RXS:=qd.new (w:=(w.alloc (.cells ZA 102)).drew) (T:=102) (n:=w.heap.size+1) ZL (by show (w.alloc (.cells ZA 102)).heap.size=_;simp);change qd ((w.alloc (.cells ZA 102)).drew.alloc (.cells ZA 102)) (w.heap.size+1) ZL at RXS;have RTR:=RT.drew;have RTS:=RTR.boxed (.cells ZA 102)
 have RI:Hid (∀wx,Below (w.alloc (.cells ZA 102)).heap.size (w.alloc (.cells ZA 102)) wx->Ca 207 #[PP b] wx λe w'=>∃I J,e=.returned (.slice I (jh s.ws).length J)/\w'.ownsRow wx.heap.size 100 3 (.slice I (jh s.ws).length J) (jh s.ws).length (qcf (jh s.ws))/\Bw wx w'/\Bw w w'/\qd w' b (yj s (.map (some bm)))/\w.heap.size+1<=wx.heap.size):=λwx hx=>by
  have hbx:=qa hb1 hx;refine(qya wx (HB0.out.1.later hbx) (HB0.out.2.later hbx)).mono ?_;rintro e w' ⟨v,rfl,ownv,hbv⟩;obtain⟨I,J,rfl,_⟩:=qbg ownv;have:=hx.size;have e1:=HW1.out;exact⟨I,J,rfl,ownv,hbv,qa hbx hbv,HB0.out.1.later (qa hbx hbv),by omega⟩
 have CM:Hid (∀(Bs:Nat) (y:World) (I:Option Addr) (J:Nat),Bw w y->w.heap.size+1<=Bs->y.ownsRow Bs 100 3 (.slice I (jh s.ws).length J) (jh s.ws).length (qcf (jh s.ws))->Ca 206 #[PP E,U now,.agg #[U s.s0,U s.s1,U s.s2,U s.s3],.slice I (jh s.ws).length J] y λe z=>∃(c:Option Addr) (d:Nat),e=.returned (.tuple #[.agg (List.toArray (T9 a f j l o r u x c i.length d)),jc ce])/\Hid (qr z c d i/\qbi (qeu E (qf3 S now s.s0 s.s1 s.s2 s.s3 (jh s.ws)) (⟨⟨a,f,j,l,o,r,u,x,i⟩,c,d⟩:TxM).blk) y X z/\∀k,(⟨⟨a,f,j,l,o,r,u,x,i⟩,c,d⟩:TxM).blk k->y.heap.size<=k)/\(∀k,w.heap.size<=k->k<y.heap.size->z.heap[k]?=y.heap[k]?)/\y.heap.size<=z.heap.size):=λBs y I J hba hle own=>by
  obtain⟨a2,c2,e2,hWv⟩:=qbg own;injection e2 with e2 _ e3;subst e2 e3;refine(qtk now s.s0 s.s1 s.s2 s.s3 y (B.out.2.1.later hba) B.out.2.2.1 hWv (λk off hne e hg=>?_)).mono ?_
  ·obtain⟨g,cc,e1,e2,e3⟩:=own.form (List.length_pos_iff.2 hne);injection e1 with e1;rw[e1]at e;injection e with e;injection e with e;have:=B.out.2.2.2.2.2.2 k hg;omega
  rintro e z ⟨⟨mt,c,d⟩,G',rfl,hmt,C⟩;rw[hct]at hmt;simp only at hmt;subst hmt;rw[hce];have tB:=C.out.2.2.2.1;exact⟨c,d,rfl,⟨C.out.1,⟨G',⟨C.out.2.1,λk K=>(C.out.2.2.2.2 k K).2⟩,C.out.2.2.1,tB⟩,λk K=>(C.out.2.2.2.2 k K).1⟩,λk h1 h2=>tB.block k h2 (λe=>by have:=B.out.2.2.2.2.2.2 _ e;omega),tB.size⟩
 have k5:=B1.cell 5 _ rfl;have k6:=B1.cell 6 _ rfl;have k7:=B1.cell 7 _ rfl;have k8:=B1.cell 8 _ rfl;have HBL:=hd1 h0.lt
 have hbl1:b<w.heap.size+1:=by have:=HBL.out;omega
 clear hS hI hd h0 ho M1 hM hl;go_enter Tryz.func150,Tryz.ntmps150
 go_wp2_with fail
 go_region_law (first
  |(refine je rfl 207 #[PP b] (by go_simp) (RI.out _ hbR) ?_
    rintro e L ⟨I,J,rfl,ownv,hbv,hba,M,hle⟩;refine⟨_,rfl,?_⟩;have RTa:=RTR.later hbv;have hla:=M.lt;have z5:=M.cell 5 _ rfl;have z6:=M.cell 6 _ rfl;have z7:=M.cell 7 _ rfl
    have z8:=M.cell 8 _ rfl)
  |(refine je rfl 207 #[PP b] (by go_simp) (RI.out _ hbS) ?_
    rintro e L ⟨I,J,rfl,ownv,hbv,hba,M,hle⟩;refine⟨_,rfl,?_⟩;have RTa:=RTS.later hbv;have RXa:=RXS.later hbv;have hla:=M.lt;have z5:=M.cell 5 _ rfl;have z6:=M.cell 6 _ rfl;have z7:=M.cell 7 _ rfl
    have z8:=M.cell 8 _ rfl)
  |(refine je rfl 206 #[PP E,U now,.agg #[U s.s0,U s.s1,U s.s2,U s.s3],.slice I (jh s.ws).length J] (by go_simp) (CM.out _ (L.alloc (.cells ZA 102)) I J (boxed hba _) hle (ownv.alloc _)) ?_
    rintro e z ⟨c,d,rfl,C,hkB,hsB⟩;refine⟨_,rfl,?_⟩;have hla2:=RTa.lt;have RTB:=(RTa.boxed (.cells ZA 102)).kept (hkB _ (jcd _) (by simp;omega)) hsB;have O:=(qd.new (w:=L) (T:=102) ZL rfl).kept (hkB _ (by omega) (by simp)) hsB;obtain⟨x0,x1,x2,x3,x4,x5,x6,x7,x8⟩:=O.c9;have q0:=O.free 0 (by simp);have q1:=O.free 1 (by simp);have q2:=O.free 2 (by simp);have q3:=O.free 3 (by simp);have q4:=O.free 4 (by simp);have q5:=O.free 5 (by simp);have q6:=O.free 6 (by simp);have q7:=O.free 7 (by simp)
    have q8:=O.free 8 (by simp))
  |(refine je rfl 206 #[PP E,U now,.agg #[U s.s0,U s.s1,U s.s2,U s.s3],.slice I (jh s.ws).length J] (by go_simp) (CM.out _ L I J hba hle ownv) ?_
    rintro e z ⟨c,d,rfl,C,hkB,hsB⟩;refine⟨_,rfl,?_⟩;have RTB:=RTa.kept (hkB _ (jcd _) RTa.lt) hsB;have P:=RXa.kept (hkB _ (by omega) RXa.lt) hsB;obtain⟨x0,x1,x2,x3,x4,x5,x6,x7,x8⟩:=P.c9;have q0:=P.free 0 (by simp);have q1:=P.free 1 (by simp);have q2:=P.free 2 (by simp);have q3:=P.free 3 (by simp);have q4:=P.free 4 (by simp);have q5:=P.free 5 (by simp);have q6:=P.free 6 (by simp);have q7:=P.free 7 (by simp)
    have q8:=P.free 8 (by simp))
  |(refine je rfl 206 #[PP E,U now,.agg #[U s.s0,U s.s1,U s.s2,U s.s3],.slice I (jh s.ws).length J] (by go_simp) (CM.out _ L I J hba hle ownv) ?_
    rintro e z ⟨c,d,rfl,C,hkB,hsB⟩;refine⟨_,rfl,?_⟩
    have RTB:=RTa.kept (hkB _ (jcd _) RTa.lt) hsB))
 all_goals
  have hlT:=RTB.lt;have hlTa:=RTa.lt
  first
   |(have V:=yz O rfl a f j l o r u x (.slice c i.length d)
     have Q:=qtu RTB (by omega:w.heap.size≠L.heap.size) a f j l o r u x (.slice c i.length d)
     have bneX:b≠L.heap.size:=by have:=HBL.out;omega
     have hxge:w.heap.size<=L.heap.size:=by omega
     have PK:Hid (∃y N,Bw w y/\(∀k,N k->w.heap.size<=k/\k<y.heap.size)/\N w.heap.size/\qbi (qeu E (qf3 S now s.s0 s.s1 s.s2 s.s3 (jh s.ws)) (⟨⟨a,f,j,l,o,r,u,x,i⟩,c,d⟩:TxM).blk) y X z/\qr z c d i/\(∀k,(⟨⟨a,f,j,l,o,r,u,x,i⟩,c,d⟩:TxM).blk k->y.heap.size<=k)/\qc N z (js z L.heap.size a f j l o r u x (.slice c i.length d))):=⟨L.alloc (.cells ZA 102),λk=>k=w.heap.size\/k=L.heap.size,boxed hba _,λk e=>by simp;omega,.inl rfl,C.out.2.1,C.out.1,C.out.2.2,qaz (qc.ofBelow (jcc _ z)) (.inr rfl) a f j l o r u x (.slice c i.length d)⟩;obtain⟨R,hWC⟩:∃R,js z L.heap.size a f j l o r u x (.slice c i.length d)=R:=⟨_,rfl⟩;rw[hWC]at V Q PK;simp only[js]at hWC
     clear O RTB)
   |(have V:=yz P rfl a f j l o r u x (.slice c i.length d)
     have Q:=qtu RTB (by omega:w.heap.size≠w.heap.size+1) a f j l o r u x (.slice c i.length d)
     have bneX:b≠w.heap.size+1:=by have:=HBL.out;omega
     have hxge:w.heap.size<=w.heap.size+1:=by omega
     have hlX:=RXa.lt;have PK:Hid (∃y N,Bw w y/\(∀k,N k->w.heap.size<=k/\k<y.heap.size)/\N w.heap.size/\qbi (qeu E (qf3 S now s.s0 s.s1 s.s2 s.s3 (jh s.ws)) (⟨⟨a,f,j,l,o,r,u,x,i⟩,c,d⟩:TxM).blk) y X z/\qr z c d i/\(∀k,(⟨⟨a,f,j,l,o,r,u,x,i⟩,c,d⟩:TxM).blk k->y.heap.size<=k)/\qc N z (js z (w.heap.size+1) a f j l o r u x (.slice c i.length d))):=⟨L,λk=>k=w.heap.size\/k=w.heap.size+1,hba,λk e=>by omega,.inl rfl,C.out.2.1,C.out.1,C.out.2.2,qaz (qc.ofBelow (jcc _ z)) (.inr rfl) a f j l o r u x (.slice c i.length d)⟩;obtain⟨R,hWC⟩:∃R,js z (w.heap.size+1) a f j l o r u x (.slice c i.length d)=R:=⟨_,rfl⟩;rw[hWC]at V Q PK;simp only[js]at hWC
     clear P RXa hlX RTB)
   |(have V:=qd.new (w:=z) (T:=102) (T9 a f j l o r u x c i.length d) rfl
     change qd (z.alloc (.cells (List.toArray (T9 a f j l o r u x c i.length d)) 102)) z.heap.size (T9 a f j l o r u x c i.length d)at V;have Q:=RTB.boxed (.cells (List.toArray (T9 a f j l o r u x c i.length d)) 102)
     have bneX:b≠z.heap.size:=by have:=HBL.out;omega
     have hxge:w.heap.size<=z.heap.size:=by omega
     have PK:Hid (∃y N,Bw w y/\(∀k,N k->w.heap.size<=k/\k<y.heap.size)/\N w.heap.size/\qbi (qeu E (qf3 S now s.s0 s.s1 s.s2 s.s3 (jh s.ws)) (⟨⟨a,f,j,l,o,r,u,x,i⟩,c,d⟩:TxM).blk) y X z/\qr z c d i/\(∀k,(⟨⟨a,f,j,l,o,r,u,x,i⟩,c,d⟩:TxM).blk k->y.heap.size<=k)/\qc N z (z.alloc (.cells (List.toArray (T9 a f j l o r u x c i.length d)) 102))):=⟨L,λk=>k=w.heap.size,hba,λk e=>by omega,rfl,C.out.2.1,C.out.1,C.out.2.2,qc.ofBelow (boxed (jcc _ z) _)⟩;obtain⟨R,hWC⟩:∃R,z.alloc (.cells (List.toArray (T9 a f j l o r u x c i.length d)) 102)=R:=⟨_,rfl⟩;rw[hWC]at V Q PK
     clear RTB)
  (try clear x0 x1 x2 x3 x4 x5 x6 x7 x8 q0 q1 q2 q3 q4 q5 q6 q7 q8)
  clear k4 k5 k6 k7 k8 k9 z5 z6 z7 z8 LEN RI CM B1 RT RTR RTS RXS hbR hbS C ownv hbv M RTa hlT hlTa hkB hsB
  have PSC:PSe R b G s:=by
   obtain⟨y,N,hA,hN,hNw,hPB,hWB,hnb,TC⟩:=PK.out;have mid:=qz8 (q:=qeu E (qf3 S now s.s0 s.s1 s.s2 s.s3 (jh s.ws)) (⟨⟨a,f,j,l,o,r,u,x,i⟩,c,d⟩:TxM).blk) B.out.2.2.2.2.2.1 B.out.2.2.2.1 hA hN hPB TC;exact B.out.1.kept mid.1 mid.2
  by_cases hE:ce=0
  ·subst hE
   have H:Hid (j0 S s now=atLeast a f (qc3 s)/\a=S.id):=by
        have:=qrv (S:=S) (s:=s) (now:=now) HO.out HLN.out hce;rw[hct]at this;exact this
   have HCE:=hd2 (HY.out.1.trans hce) (HY.out.2.1.trans hct)
   have i0:0<=a:=by rw[H.out.2];exact B.out.2.2.1.id0
   have i3:a<=3:=by rw[H.out.2];exact B.out.2.2.1.id3
   have i4:a<4:=by omega
   have EN:=qom R PSC;rw[show jc 0=.nilIface from rfl];clear hct hce
   go_wp2_with (rw[hWC])
   refine EN.mono ?_;rintro e wD ⟨rfl,hpo⟩;have HPO:=hd1 hpo;obtain⟨G',⟨mv',B',_⟩,_,tD⟩:=hpo;have RTD:=Q.kept (tD.block _ Q.lt (λe=>by have:=B.out.2.2.2.2.2.1 _ e;omega)) tD.size;have RXD:=V.kept (tD.block _ V.lt (λe=>by have:=B.out.2.2.2.2.2.1 _ e;omega)) tD.size;obtain⟨D,hD⟩:∃D,qp a (qc3 s).p0 (qc3 s).p1 (qc3 s).p2 (qc3 s).p3=D:=⟨_,rfl⟩
   have HPA:Hid ((yj (qc3 s) mv')[a.toNat]?=some (U D)):=by show _=_;rw[q5u i0 i3,hD]
   have HS2:Hid (j0 S s now=qnk a.toNat (jd D f) (qc3 s)):=by show _=_;rw[H.out.1,qlh i0 i3,hD]
   clear hD tD EN Q V hxge;have x0:=RXD.cell 0 _ rfl;have x1:=RXD.cell 1 _ rfl;have y0:=B'.cell _ _ HPA.out;have g0:=B'.free a.toNat (by simp[yj];omega)
   have bne:b≠w.heap.size:=λe=>by have:=HBL.out;omega
   go_wp2_with fail
   go_region
   all_goals
        obtain⟨W,hmx⟩:∃W,(if D<f then f else D)=W:=⟨_,rfl⟩;rw[hmx];have HMX:Hid (jd D f=W):=hmx;have P4:=(qc8.past B.out.2.2.2.2.1 HPO.out (n:=a.toNat) (by omega) W).after ((jcc _ (wD.setCell (AD b a.toNat) (U W))).drew);have RT4:=(RTD.far (AD b a.toNat) (U W) bne).drew;have RX4:=(RXD.far (AD b a.toNat) (U W) bneX).drew;obtain⟨W4,hW4⟩:∃W4,(wD.setCell (AD b a.toNat) (U W)).drew=W4:=⟨_,rfl⟩;rw[hW4]at P4 RT4 RX4
        (try rw[hW4])
        clear x0 x1 y0 g0 B' RTD RXD hmx;obtain⟨x0,x1,x2,x3,x4,x5,x6,x7,x8⟩:=RX4.c9;obtain⟨r0,r1,r2,r3,r4,r5,r6,r7,r8⟩:=RT4.c9;obtain⟨p0,p1,p2,p3,p4,p5,p6,p7,p8⟩:=RT4.f9;have RZ:=yz RT4 rfl a f j l o r u x (.slice c i.length d)
        have FIN:qr (js W4 w.heap.size a f j l o r u x (.slice c i.length d)) c d i/\qfx (qix b (qnk a.toNat W (qc3 s))) (qeu E (qf3 S now s.s0 s.s1 s.s2 s.s3 (jh s.ws)) (⟨⟨a,f,j,l,o,r,u,x,i⟩,c,d⟩:TxM).blk) w G X (⟨⟨a,f,j,l,o,r,u,x,i⟩,c,d⟩:TxM).blk (js W4 w.heap.size a f j l o r u x (.slice c i.length d)):=by
         obtain⟨y,N,hA,hN,hNw,hPB,hWB,hnb,TC⟩:=PK.out;obtain⟨r1,r2⟩:=qid (p:=qix b (qnk a.toNat W (qc3 s))) (q:=qeu E (qf3 S now s.s0 s.s1 s.s2 s.s3 (jh s.ws)) (⟨⟨a,f,j,l,o,r,u,x,i⟩,c,d⟩:TxM).blk) (Y:=(⟨⟨a,f,j,l,o,r,u,x,i⟩,c,d⟩:TxM).blk) B.out.2.2.2.2.2.1 B.out.2.2.2.2.2.2 B.out.2.2.2.1 hA hN hPB (λk K=>⟨hnb k K,qr.blk_lt (m:=(⟨⟨a,f,j,l,o,r,u,x,i⟩,c,d⟩:TxM)) hWB k K⟩) TC P4.left (qaz (b:=w.heap.size) (qc.ofBelow (jcc _ W4)) hNw a f j l o r u x (.slice c i.length d));exact⟨qr.kept (m:=(⟨⟨a,f,j,l,o,r,u,x,i⟩,c,d⟩:TxM)) hWB (λk K=>r2 k K),r1⟩
        clear RT4 RX4
        go_wp2_with (rw[hW4])
        refine bodyPost_ret (qc4 RZ rfl rfl) rfl ⟨(⟨⟨a,f,j,l,o,r,u,x,i⟩,c,d⟩:TxM),by rw[HCE.out.1];rfl,HCE.out.2.symm,⟨FIN.1,?_⟩⟩;rw[HY.out.2.2,HS2.out,HMX.out];exact FIN.2
  have H:=hd1 (qp7 HO.out HLN.out (by rw[hce];exact hE));have HCE:=hd3 (HY.out.1.trans hce) (HY.out.2.1.trans H.out.2.2) (HY.out.2.2.trans H.out.2.1);have RZ:=yz Q rfl 0 0 0 0 0 0 0 0 (.slice none 0 0)
  have FIN:qfx (qix b s) (qfp E S) w G X NoY (js R w.heap.size 0 0 0 0 0 0 0 0 (.slice none 0 0)):=by
   obtain⟨y,N,hA,hN,hNw,hPB,hWB,hnb,TC⟩:=PK.out;rw[H.out.2.1]at hPB;exact q74 (qid (p:=qix b s) (q:=qeu E S (⟨⟨a,f,j,l,o,r,u,x,i⟩,c,d⟩:TxM).blk) (Y:=NoY) B.out.2.2.2.2.2.1 B.out.2.2.2.2.2.2 B.out.2.2.2.1 hA hN hPB (λk K=>K.elim) TC (qc8.same PSC (jcc _ _)).left (qaz (b:=w.heap.size) (qc.ofBelow (jcc _ R)) hNw 0 0 0 0 0 0 0 0 (.slice none 0 0))).1
  rw[show jc ce=.iface 26 (U ce) by unfold jc;rw[if_neg hE]];clear hct hce;obtain⟨r0,r1,r2,r3,r4,r5,r6,r7,r8⟩:=Q.c9;obtain⟨p0,p1,p2,p3,p4,p5,p6,p7,p8⟩:=Q.f9;clear Q V
  go_wp2_with (rw[hWC])
  refine bodyPost_ret (qc4 RZ rfl rfl) rfl ⟨tx0,by rw[HCE.out.1];unfold jc;rw[if_neg hE];rfl,HCE.out.2.1.symm,⟨qk4 _,qtr (Z:=NoY) ?_ qfb⟩⟩;rw[H.out.1,HCE.out.2.2];exact FIN
end Go.Proofs.YtoanjdndmlffdaaGreatDoor
