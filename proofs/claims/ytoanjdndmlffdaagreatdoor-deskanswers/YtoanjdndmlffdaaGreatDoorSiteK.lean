import Derived.Test.YtoanjdndmlffdaaGreatDoorSiteJ
set_option maxHeartbeats 16000000
set_option maxRecDepth 100000
namespace Go.Proofs.YtoanjdndmlffdaaGreatDoor
open Go.RowKit
section
variable {w:World} {b:Nat}
theorem qc4 {tmps:Array Value} {x0 x1 x2 x3 d e f g:Int} {ev:Value} {a:Option Addr} {n c:Nat} (h:qd w b (T9 x0 x1 x2 x3 d e f g a n c)) (i:tmps[6]?=some (PP b)) (j:tmps[7]?=some ev):
 (results Tryz.f150 tmps).run Tryz.prog w=.ok (.tuple #[.agg (List.toArray (T9 x0 x1 x2 x3 d e f g a n c)),ev]) w:=by
 obtain⟨k,l,m,o,p,q,r,s,t⟩:=h.c9;simp[results,Tryz.results150,go_sem,i,j,k,l,m,o,p,q,r,s,t]
variable {G:Nat->Prop}
theorem qc8.left {w':World} {a:qy} (h:qc8 w b G a w'):qbi (qix b a) w G w':=h
theorem qol {I:Nat} {Gx:Nat->Prop} {s:qy} {S:qe} (now:Int) (w:World) (h:PSe w b G s) (hS:PS w I Gx S) (hI:j3 S) (hd:∀k,G k->¬Gx k):
 Ca 150 #[PP b,PP I,U now] w (q33 w b I G Gx S s now):=by
 have E:=hd7 h hS hI hd h.own h.lt hS.lt;obtain⟨mv,h0,hm⟩:=h;have hb1:=boxed (jcc _ w) (.cells ZA 102);have RT:=qd.new (w:=w) (T:=102) ZL rfl;change qd (w.alloc (.cells ZA 102)) w.heap.size ZL at RT
 have HN2:Hid (∀(B:World),w.heap.size<B.heap.size->∀k,k=w.heap.size->w.heap.size<=k/\k<B.heap.size):=λB hA k e=>by omega
 have B1:=h0.later hb1;have k4:=B1.c 4;rcases hm with ⟨ho,rfl,_,_⟩|⟨ho,bm,rfl,hne,hM,hG⟩
 ·rw[ho]at k4;have J:Hid (qeg S s now=6/\qce S s now=tx0.t/\qcc S s now=S/\j0 S s now=s):=qmm ho;clear hS hI hd h0 B1 ho;go_enter Tryz.func150,Tryz.ntmps150
  go_wp2_with fail
  refine bodyPost_ret (qc4 RT rfl rfl) rfl ⟨tx0,by rw[J.out.1];rfl,J.out.2.1.symm,⟨qk4 _,qtr (Z:=NoY) ?_ qfb⟩⟩;rw[J.out.2.2.1,J.out.2.2.2];exact qod (p:=qix b s) (q:=qfp I S) E.out.1 E.out.2.1 E.out.2.2.2.1 hb1 _ (λ_ M=>M)
 rw[ho]at k4;have HO:=hd1 ho;have M1:=hM.later hb1;have LEN:=M1.len;have k9:=B1.c 9;by_cases hl:(jh s.ws).length=0
 ·have J:Hid (qeg S s now=0/\qce S s now=tx0.t/\qcc S s now=S/\j0 S s now=qc3 s):=qml HO.out hl;rw[hl]at LEN;have EN:=qom (w.alloc (.cells ZA 102)) (E.out.1.later hb1);clear hS hI hd h0 B1 ho M1 hM hl;go_enter Tryz.func150,Tryz.ntmps150
  go_wp2_with fail
  refine EN.mono ?_;rintro e wD ⟨rfl,hpo⟩;have HPO:=hd1 hpo;obtain⟨G',_,_,tD⟩:=hpo;have RTD:=RT.kept (tD.block _ RT.lt (λe=>by have:=E.out.2.2.2.2.2.1 _ e;omega)) tD.size;clear tD EN k4 k9 LEN;obtain⟨r0,r1,r2,r3,r4,r5,r6,r7,r8⟩:=RTD.c9;obtain⟨p0,p1,p2,p3,p4,p5,p6,p7,p8⟩:=RTD.f9;have RZ:=yz RTD rfl 0 0 0 0 0 0 0 0 (.slice none 0 0);have FIN:=qid (p:=qix b (qc3 s)) (q:=qfp I S) (Y:=NoY) (N:=λk=>k=w.heap.size) E.out.2.2.2.2.2.1 E.out.2.2.2.2.2.2 E.out.2.2.2.1 hb1 (HN2.out _ (by simp)) (PPo.same (E.out.2.1.later hb1) (jcc _ _)) (λk M=>M.elim) (qc.ofBelow (jcc _ _)) HPO.out.left (qaz (b:=w.heap.size) (F:=λk=>k=w.heap.size) (qc.ofBelow (jcc _ wD)) rfl 0 0 0 0 0 0 0 0 (.slice none 0 0));clear RTD RT HPO
  go_wp2_with fail
  refine bodyPost_ret (qc4 RZ rfl rfl) rfl ⟨tx0,by rw[J.out.1];rfl,J.out.2.1.symm,⟨qk4 _,qtr (Z:=NoY) ?_ qfb⟩⟩;rw[J.out.2.2.1,J.out.2.2.2];exact FIN.1
 have HY:Hid (qeg S s now=qfl S now s.s0 s.s1 s.s2 s.s3 (jh s.ws)/\qce S s now=qha S now s.s0 s.s1 s.s2 s.s3 (jh s.ws)/\qcc S s now=qf3 S now s.s0 s.s1 s.s2 s.s3 (jh s.ws)):=qjx HO.out hl;have HLN:Hid ((jh s.ws).length≠0):=hl
 have l0:¬(((jh s.ws).length:Int)=0):=by omega
 have l1:((((jh s.ws).length:Int))==0)=false:=by simpa using l0
 obtain⟨⟨a,j,o,r,u,x,y,z,l⟩,hct⟩:∃t,qha S now s.s0 s.s1 s.s2 s.s3 (jh s.ws)=t:=⟨_,rfl⟩;obtain⟨ce,hce⟩:∃ce,qfl S now s.s0 s.s1 s.s2 s.s3 (jh s.ws)=ce:=⟨_,rfl⟩;have HB0:=hd2 h0 hM
 have HW1:Hid ((w.alloc (.cells ZA 102)).heap.size=w.heap.size+1):=by show _=_;simp
 have hbR:=(jcc (w.alloc (.cells ZA 102)).heap.size (w.alloc (.cells ZA 102))).drew;have hbS:=boxed hbR (.cells ZA 102);have RXS:=qd.new (w:=(w.alloc (.cells ZA 102)).drew) (T:=102) (n:=w.heap.size+1) ZL (by show (w.alloc (.cells ZA 102)).heap.size=_;simp);change qd ((w.alloc (.cells ZA 102)).drew.alloc (.cells ZA 102)) (w.heap.size+1) ZL at RXS;have RTR:=RT.drew;have RTS:=RTR.boxed (.cells ZA 102)
 have RI:Hid (∀wx,Below (w.alloc (.cells ZA 102)).heap.size (w.alloc (.cells ZA 102)) wx->Ca 207 #[PP b] wx λe w'=>∃K L,e=.returned (.slice K (jh s.ws).length L)/\w'.ownsRow wx.heap.size 100 3 (.slice K (jh s.ws).length L) (jh s.ws).length (qcf (jh s.ws))/\Bw wx w'/\Bw w w'/\qd w' b (yj s (.map (some bm)))/\w.heap.size+1<=wx.heap.size):=λwx hx=>by
  have hbx:=qa hb1 hx;refine(qya wx (HB0.out.1.later hbx) (HB0.out.2.later hbx)).mono ?_;rintro e w' ⟨v,rfl,ownv,hbv⟩;obtain⟨K,L,rfl,_⟩:=qbg ownv;have:=hx.size;have e1:=HW1.out;exact⟨K,L,rfl,ownv,hbv,qa hbx hbv,HB0.out.1.later (qa hbx hbv),by omega⟩
 have CM:Hid (∀(Bs:Nat) (B:World) (K:Option Addr) (L:Nat),Bw w B->w.heap.size+1<=Bs->B.ownsRow Bs 100 3 (.slice K (jh s.ws).length L) (jh s.ws).length (qcf (jh s.ws))->Ca 206 #[PP I,U now,.agg #[U s.s0,U s.s1,U s.s2,U s.s3],.slice K (jh s.ws).length L] B λe C=>∃(d:Option Addr) (i:Nat),e=.returned (.tuple #[.agg (List.toArray (T9 a j o r u x y z d l.length i)),jc ce])/\Hid (qr C d i l/\qbi (qeu I (qf3 S now s.s0 s.s1 s.s2 s.s3 (jh s.ws)) (⟨⟨a,j,o,r,u,x,y,z,l⟩,d,i⟩:TxM).blk) B Gx C/\∀k,(⟨⟨a,j,o,r,u,x,y,z,l⟩,d,i⟩:TxM).blk k->B.heap.size<=k)/\(∀k,w.heap.size<=k->k<B.heap.size->C.heap[k]?=B.heap[k]?)/\B.heap.size<=C.heap.size):=λBs B K L hba hle own=>by
  obtain⟨a2,c2,e2,hWv⟩:=qbg own;injection e2 with e2 _ e3;subst e2 e3;refine(qtk now s.s0 s.s1 s.s2 s.s3 B (E.out.2.1.later hba) E.out.2.2.1 hWv (λk off hne e hg=>?_)).mono ?_
  ·obtain⟨g,cc,e1,e2,e3⟩:=own.form (List.length_pos_iff.2 hne);injection e1 with e1;rw[e1]at e;injection e with e;injection e with e;have:=E.out.2.2.2.2.2.2 k hg;omega
  rintro e C ⟨⟨mt,d,i⟩,G',rfl,hmt,H⟩;rw[hct]at hmt;simp only at hmt;subst hmt;rw[hce];have tB:=H.out.2.2.2.1;exact⟨d,i,rfl,⟨H.out.1,⟨G',⟨H.out.2.1,λk M=>(H.out.2.2.2.2 k M).2⟩,H.out.2.2.1,tB⟩,λk M=>(H.out.2.2.2.2 k M).1⟩,λk h1 h2=>tB.block k h2 (λe=>by have:=E.out.2.2.2.2.2.2 _ e;omega),tB.size⟩
 have k5:=B1.c 5;have k6:=B1.c 6;have k7:=B1.c 7;have k8:=B1.c 8;have HBL:=hd1 h0.lt
 have hbl1:b<w.heap.size+1:=by have:=HBL.out;omega
 clear hS hI hd h0 ho M1 hM hl;go_enter Tryz.func150,Tryz.ntmps150
 go_wp2_with fail
 go_region_law (first
  |(refine je rfl 207 #[PP b] (by go_simp) (RI.out _ hbR) ?_
    rintro e O ⟨K,L,rfl,ownv,hbv,hba,P,hle⟩;refine⟨_,rfl,?_⟩;have RTa:=RTR.later hbv;have hla:=P.lt;have z5:=P.c 5;have z6:=P.c 6;have z7:=P.c 7
    have z8:=P.c 8)
  |(refine je rfl 207 #[PP b] (by go_simp) (RI.out _ hbS) ?_
    rintro e O ⟨K,L,rfl,ownv,hbv,hba,P,hle⟩;refine⟨_,rfl,?_⟩;have RTa:=RTS.later hbv;have RXa:=RXS.later hbv;have hla:=P.lt;have z5:=P.c 5;have z6:=P.c 6;have z7:=P.c 7
    have z8:=P.c 8)
  |(refine je rfl 206 #[PP I,U now,.agg #[U s.s0,U s.s1,U s.s2,U s.s3],.slice K (jh s.ws).length L] (by go_simp) (CM.out _ (O.alloc (.cells ZA 102)) K L (boxed hba _) hle (ownv.alloc _)) ?_
    rintro e C ⟨d,i,rfl,H,hkB,hsB⟩;refine⟨_,rfl,?_⟩;have hla2:=RTa.lt;have RTB:=(RTa.boxed (.cells ZA 102)).kept (hkB _ (jcd _) (by simp;omega)) hsB;have Q:=(qd.new (w:=O) (T:=102) ZL rfl).kept (hkB _ (by omega) (by simp)) hsB;obtain⟨x0,x1,x2,x3,x4,x5,x6,x7,x8⟩:=Q.c9;have q0:=Q.f 0;have q1:=Q.f 1;have q2:=Q.f 2;have q3:=Q.f 3;have q4:=Q.f 4;have q5:=Q.f 5;have q6:=Q.f 6;have q7:=Q.f 7
    have q8:=Q.f 8)
  |(refine je rfl 206 #[PP I,U now,.agg #[U s.s0,U s.s1,U s.s2,U s.s3],.slice K (jh s.ws).length L] (by go_simp) (CM.out _ O K L hba hle ownv) ?_
    rintro e C ⟨d,i,rfl,H,hkB,hsB⟩;refine⟨_,rfl,?_⟩;have RTB:=RTa.kept (hkB _ (jcd _) RTa.lt) hsB;have R:=RXa.kept (hkB _ (by omega) RXa.lt) hsB;obtain⟨x0,x1,x2,x3,x4,x5,x6,x7,x8⟩:=R.c9;have q0:=R.f 0;have q1:=R.f 1;have q2:=R.f 2;have q3:=R.f 3;have q4:=R.f 4;have q5:=R.f 5;have q6:=R.f 6;have q7:=R.f 7
    have q8:=R.f 8)
  |(refine je rfl 206 #[PP I,U now,.agg #[U s.s0,U s.s1,U s.s2,U s.s3],.slice K (jh s.ws).length L] (by go_simp) (CM.out _ O K L hba hle ownv) ?_
    rintro e C ⟨d,i,rfl,H,hkB,hsB⟩;refine⟨_,rfl,?_⟩
    have RTB:=RTa.kept (hkB _ (jcd _) RTa.lt) hsB))
 all_goals
  have hlT:=RTB.lt;have hlTa:=RTa.lt
  first
   |(have X:=yz Q rfl a j o r u x y z (.slice d l.length i)
     have V:=qtu RTB (by omega:w.heap.size≠O.heap.size) a j o r u x y z (.slice d l.length i)
     have bneX:b≠O.heap.size:=by have:=HBL.out;omega
     have hxge:w.heap.size<=O.heap.size:=by omega
     have PK:Hid (∃B N,Bw w B/\(∀k,N k->w.heap.size<=k/\k<B.heap.size)/\N w.heap.size/\qbi (qeu I (qf3 S now s.s0 s.s1 s.s2 s.s3 (jh s.ws)) (⟨⟨a,j,o,r,u,x,y,z,l⟩,d,i⟩:TxM).blk) B Gx C/\qr C d i l/\(∀k,(⟨⟨a,j,o,r,u,x,y,z,l⟩,d,i⟩:TxM).blk k->B.heap.size<=k)/\qc N C (js C O.heap.size a j o r u x y z (.slice d l.length i))):=⟨O.alloc (.cells ZA 102),λk=>k=w.heap.size\/k=O.heap.size,boxed hba _,λk e=>by simp;omega,.inl rfl,H.out.2.1,H.out.1,H.out.2.2,qaz (qc.ofBelow (jcc _ C)) (.inr rfl) a j o r u x y z (.slice d l.length i)⟩;obtain⟨W,hWC⟩:∃W,js C O.heap.size a j o r u x y z (.slice d l.length i)=W:=⟨_,rfl⟩;rw[hWC]at X V PK;simp only[js]at hWC
     clear Q RTB)
   |(have X:=yz R rfl a j o r u x y z (.slice d l.length i)
     have V:=qtu RTB (by omega:w.heap.size≠w.heap.size+1) a j o r u x y z (.slice d l.length i)
     have bneX:b≠w.heap.size+1:=by have:=HBL.out;omega
     have hxge:w.heap.size<=w.heap.size+1:=by omega
     have hlX:=RXa.lt;have PK:Hid (∃B N,Bw w B/\(∀k,N k->w.heap.size<=k/\k<B.heap.size)/\N w.heap.size/\qbi (qeu I (qf3 S now s.s0 s.s1 s.s2 s.s3 (jh s.ws)) (⟨⟨a,j,o,r,u,x,y,z,l⟩,d,i⟩:TxM).blk) B Gx C/\qr C d i l/\(∀k,(⟨⟨a,j,o,r,u,x,y,z,l⟩,d,i⟩:TxM).blk k->B.heap.size<=k)/\qc N C (js C (w.heap.size+1) a j o r u x y z (.slice d l.length i))):=⟨O,λk=>k=w.heap.size\/k=w.heap.size+1,hba,λk e=>by omega,.inl rfl,H.out.2.1,H.out.1,H.out.2.2,qaz (qc.ofBelow (jcc _ C)) (.inr rfl) a j o r u x y z (.slice d l.length i)⟩;obtain⟨W,hWC⟩:∃W,js C (w.heap.size+1) a j o r u x y z (.slice d l.length i)=W:=⟨_,rfl⟩;rw[hWC]at X V PK;simp only[js]at hWC
     clear R RXa hlX RTB)
   |(have X:=qd.new (w:=C) (T:=102) (T9 a j o r u x y z d l.length i) rfl
     change qd (C.alloc (.cells (List.toArray (T9 a j o r u x y z d l.length i)) 102)) C.heap.size (T9 a j o r u x y z d l.length i)at X;have V:=RTB.boxed (.cells (List.toArray (T9 a j o r u x y z d l.length i)) 102)
     have bneX:b≠C.heap.size:=by have:=HBL.out;omega
     have hxge:w.heap.size<=C.heap.size:=by omega
     have PK:Hid (∃B N,Bw w B/\(∀k,N k->w.heap.size<=k/\k<B.heap.size)/\N w.heap.size/\qbi (qeu I (qf3 S now s.s0 s.s1 s.s2 s.s3 (jh s.ws)) (⟨⟨a,j,o,r,u,x,y,z,l⟩,d,i⟩:TxM).blk) B Gx C/\qr C d i l/\(∀k,(⟨⟨a,j,o,r,u,x,y,z,l⟩,d,i⟩:TxM).blk k->B.heap.size<=k)/\qc N C (C.alloc (.cells (List.toArray (T9 a j o r u x y z d l.length i)) 102))):=⟨O,λk=>k=w.heap.size,hba,λk e=>by omega,rfl,H.out.2.1,H.out.1,H.out.2.2,qc.ofBelow (boxed (jcc _ C) _)⟩;obtain⟨W,hWC⟩:∃W,C.alloc (.cells (List.toArray (T9 a j o r u x y z d l.length i)) 102)=W:=⟨_,rfl⟩;rw[hWC]at X V PK
     clear RTB)
  (try clear x0 x1 x2 x3 x4 x5 x6 x7 x8 q0 q1 q2 q3 q4 q5 q6 q7 q8)
  clear k4 k5 k6 k7 k8 k9 z5 z6 z7 z8 LEN RI CM B1 RT RTR RTS RXS hbR hbS H ownv hbv P RTa hlT hlTa hkB hsB
  have PSC:PSe W b G s:=by
   obtain⟨B,N,hA,hN,hNw,hPB,hWB,hnb,TC⟩:=PK.out;have mid:=qz8 (q:=qeu I (qf3 S now s.s0 s.s1 s.s2 s.s3 (jh s.ws)) (⟨⟨a,j,o,r,u,x,y,z,l⟩,d,i⟩:TxM).blk) E.out.2.2.2.2.2.1 E.out.2.2.2.1 hA hN hPB TC;exact E.out.1.kept mid.1 mid.2
  by_cases hE:ce=0
  ·subst hE
   have J:Hid (j0 S s now=atLeast a j (qc3 s)/\a=S.id):=by
        have:=qrv (S:=S) (s:=s) (now:=now) HO.out HLN.out hce;rw[hct]at this;exact this
   have HCE:=hd2 (HY.out.1.trans hce) (HY.out.2.1.trans hct)
   have i0:0<=a:=by rw[J.out.2];exact E.out.2.2.1.id0
   have i3:a<=3:=by rw[J.out.2];exact E.out.2.2.1.id3
   have i4:a<4:=by omega
   have EN:=qom W PSC;rw[show jc 0=.nilIface from rfl];clear hct hce
   go_wp2_with (rw[hWC])
   refine EN.mono ?_;rintro e wD ⟨rfl,hpo⟩;have HPO:=hd1 hpo;obtain⟨G',⟨mv',B',_⟩,_,tD⟩:=hpo;have RTD:=V.kept (tD.block _ V.lt (λe=>by have:=E.out.2.2.2.2.2.1 _ e;omega)) tD.size;have RXD:=X.kept (tD.block _ X.lt (λe=>by have:=E.out.2.2.2.2.2.1 _ e;omega)) tD.size;obtain⟨D,hD⟩:∃D,qp a (qc3 s).p0 (qc3 s).p1 (qc3 s).p2 (qc3 s).p3=D:=⟨_,rfl⟩
   have HPA:Hid ((yj (qc3 s) mv')[a.toNat]?=some (U D)):=by show _=_;rw[q5u i0 i3,hD]
   have HS2:Hid (j0 S s now=qnk a.toNat (jd D j) (qc3 s)):=by show _=_;rw[J.out.1,qlh i0 i3,hD]
   clear hD tD EN V X hxge;have x0:=RXD.c 0;have x1:=RXD.c 1;have y0:=B'.cell _ _ HPA.out;have g0:=B'.free a.toNat (by simp[yj];omega)
   have bne:b≠w.heap.size:=λe=>by have:=HBL.out;omega
   go_wp2_with fail
   go_region
   all_goals
        obtain⟨mx,hmx⟩:∃mx,(if D<j then j else D)=mx:=⟨_,rfl⟩;rw[hmx];have HMX:Hid (jd D j=mx):=hmx;have P4:=(qc8.past E.out.2.2.2.2.1 HPO.out (n:=a.toNat) (by omega) mx).after ((jcc _ (wD.setCell (AD b a.toNat) (U mx))).drew);have RT4:=(RTD.far (AD b a.toNat) (U mx) bne).drew;have RX4:=(RXD.far (AD b a.toNat) (U mx) bneX).drew;obtain⟨W4,hW4⟩:∃W4,(wD.setCell (AD b a.toNat) (U mx)).drew=W4:=⟨_,rfl⟩;rw[hW4]at P4 RT4 RX4
        (try rw[hW4])
        clear x0 x1 y0 g0 B' RTD RXD hmx;obtain⟨x0,x1,x2,x3,x4,x5,x6,x7,x8⟩:=RX4.c9;obtain⟨r0,r1,r2,r3,r4,r5,r6,r7,r8⟩:=RT4.c9;obtain⟨p0,p1,p2,p3,p4,p5,p6,p7,p8⟩:=RT4.f9;have RZ:=yz RT4 rfl a j o r u x y z (.slice d l.length i)
        have FIN:qr (js W4 w.heap.size a j o r u x y z (.slice d l.length i)) d i l/\qfx (qix b (qnk a.toNat mx (qc3 s))) (qeu I (qf3 S now s.s0 s.s1 s.s2 s.s3 (jh s.ws)) (⟨⟨a,j,o,r,u,x,y,z,l⟩,d,i⟩:TxM).blk) w G Gx (⟨⟨a,j,o,r,u,x,y,z,l⟩,d,i⟩:TxM).blk (js W4 w.heap.size a j o r u x y z (.slice d l.length i)):=by
         obtain⟨B,N,hA,hN,hNw,hPB,hWB,hnb,TC⟩:=PK.out;obtain⟨r1,r2⟩:=qid (p:=qix b (qnk a.toNat mx (qc3 s))) (q:=qeu I (qf3 S now s.s0 s.s1 s.s2 s.s3 (jh s.ws)) (⟨⟨a,j,o,r,u,x,y,z,l⟩,d,i⟩:TxM).blk) (Y:=(⟨⟨a,j,o,r,u,x,y,z,l⟩,d,i⟩:TxM).blk) E.out.2.2.2.2.2.1 E.out.2.2.2.2.2.2 E.out.2.2.2.1 hA hN hPB (λk M=>⟨hnb k M,qr.blk_lt (m:=(⟨⟨a,j,o,r,u,x,y,z,l⟩,d,i⟩:TxM)) hWB k M⟩) TC P4.left (qaz (b:=w.heap.size) (qc.ofBelow (jcc _ W4)) hNw a j o r u x y z (.slice d l.length i));exact⟨qr.kept (m:=(⟨⟨a,j,o,r,u,x,y,z,l⟩,d,i⟩:TxM)) hWB (λk M=>r2 k M),r1⟩
        clear RT4 RX4
        go_wp2_with (rw[hW4])
        refine bodyPost_ret (qc4 RZ rfl rfl) rfl ⟨(⟨⟨a,j,o,r,u,x,y,z,l⟩,d,i⟩:TxM),by rw[HCE.out.1];rfl,HCE.out.2.symm,⟨FIN.1,?_⟩⟩;rw[HY.out.2.2,HS2.out,HMX.out];exact FIN.2
  have J:=hd1 (qp7 HO.out HLN.out (by rw[hce];exact hE));have HCE:=hd3 (HY.out.1.trans hce) (HY.out.2.1.trans J.out.2.2) (HY.out.2.2.trans J.out.2.1);have RZ:=yz V rfl 0 0 0 0 0 0 0 0 (.slice none 0 0)
  have FIN:qfx (qix b s) (qfp I S) w G Gx NoY (js W w.heap.size 0 0 0 0 0 0 0 0 (.slice none 0 0)):=by
   obtain⟨B,N,hA,hN,hNw,hPB,hWB,hnb,TC⟩:=PK.out;rw[J.out.2.1]at hPB;exact q74 (qid (p:=qix b s) (q:=qeu I S (⟨⟨a,j,o,r,u,x,y,z,l⟩,d,i⟩:TxM).blk) (Y:=NoY) E.out.2.2.2.2.2.1 E.out.2.2.2.2.2.2 E.out.2.2.2.1 hA hN hPB (λk M=>M.elim) TC (qc8.same PSC (jcc _ _)).left (qaz (b:=w.heap.size) (qc.ofBelow (jcc _ W)) hNw 0 0 0 0 0 0 0 0 (.slice none 0 0))).1
  rw[show jc ce=.iface 26 (U ce) by unfold jc;rw[if_neg hE]];clear hct hce;obtain⟨r0,r1,r2,r3,r4,r5,r6,r7,r8⟩:=V.c9;obtain⟨p0,p1,p2,p3,p4,p5,p6,p7,p8⟩:=V.f9;clear V X
  go_wp2_with (rw[hWC])
  refine bodyPost_ret (qc4 RZ rfl rfl) rfl ⟨tx0,by rw[HCE.out.1];unfold jc;rw[if_neg hE];rfl,HCE.out.2.1.symm,⟨qk4 _,qtr (Z:=NoY) ?_ qfb⟩⟩;rw[J.out.1,HCE.out.2.2];exact FIN
end
section
variable {b:Nat}
theorem qdl {tmps:Array Value} {w:World} {x0 x1 x2 x3 d e f g:Int} {ev:Value} {a:Option Addr} {n c:Nat} (h:qd w b (T9 x0 x1 x2 x3 d e f g a n c)) (i:tmps[4]?=some (PP b)) (j:tmps[5]?=some ev):
 (results Tryz.f103 tmps).run Tryz.prog w=.ok (.tuple #[.agg (List.toArray (T9 x0 x1 x2 x3 d e f g a n c)),ev]) w:=by
 obtain⟨k,l,m,o,p,q,r,s,t⟩:=h.c9;simp[results,Tryz.results103,go_sem,i,j,k,l,m,o,p,q,r,s,t]
theorem q04 {G:Nat->Prop} {W:WoS} (w:World) (h:PW w b G W) (hw:WfW W) {i:Nat} (hi:i<W.c) (hok:0<(wcT W i).seq->okT (wcT W i)=true):
 Ca 103 #[PP b,U i] w (q9n w b G W i):=by
 obtain⟨M,L,h,hG⟩:=h;have ha:=hw.at_ i hi;have u:=hd6 h hG hi ha hw.n4 hok;have hb0:=boxed (jcc _ w) (.cells ZA 102);have RT:=qd.new (w:=w) (T:=102) ZL rfl;change qd (w.alloc (.cells ZA 102)) w.heap.size ZL at RT;obtain⟨cb,cc,c1,hcc,hcb,x0,x1⟩:=h.client hi;obtain⟨pb,pc,c0,hpc,hpb,y0,y1⟩:=h.place ha;have hlt:=h.box.lt;have IC:=yf (k:=i) (v:=true) _ (cell_later hb0 c1) (by simp;omega)
 have BG:Hid (∀w':World,Bw w w'->Ca 150 #[PP (M.bs i),.pointer (some (AD (M.bp (W.at_ i)) 0)),U (W.wall (W.at_ i))] w' λe z=>∃(j d l o p q r s:Int) (a:List Wr) (f:Option Addr) (g:Nat),e=.returned (.tuple #[.agg (List.toArray (T9 j d l o p q r s f a.length g)),jc (wcE W i)])/\Hid (⟨j,d,l,o,p,q,r,s,a⟩=wcT W i/\qr z f g a/\Bw w w'/\qfx (qix (M.bs i) (j0 (W.S (W.at_ i)) (W.ses i) (W.wall (W.at_ i)))) (qeu (M.bp (W.at_ i)) (qcc (W.S (W.at_ i)) (W.ses i) (W.wall (W.at_ i))) (⟨⟨j,d,l,o,p,q,r,s,a⟩,f,g⟩:TxM).blk) w' (L (W.n+i)) (L (W.at_ i)) (⟨⟨j,d,l,o,p,q,r,s,a⟩,f,g⟩:TxM).blk z)/\(∀k,w.heap.size<=k->k<w'.heap.size->z.heap[k]?=w'.heap[k]?)/\w'.heap.size<=z.heap.size):=λw' hb=>by
  refine(qol (W.wall (W.at_ i)) w' ((h.sess hi).later hb) ((h.site ha).later hb) (hw.inv _ ha) (λk h1 h2=>h.fam.apart _ _ k (by omega) (by omega) (by omega) h1 h2)).mono ?_;rintro e z ⟨⟨⟨j,d,l,o,p,q,r,s,a⟩,f,g⟩,rfl,N,Q⟩;have h2:=Q.out.2;obtain⟨_,_,_,_,_,_,_,_,tt⟩:=h2
  exact⟨j,d,l,o,p,q,r,s,a,f,g,rfl,⟨N,Q.out.1,hb,Q.out.2⟩,λk h1 h2=>tt.block k h2 (λe=>by
   rcases e with e|e
   ·have:k<w.heap.size:=h.ltG (by omega) e;omega
   have:k<w.heap.size:=h.ltG (by omega) e
   omega),tt.size⟩
 have q1:(i:Int)<(W.c:Int):=by omega
 have q2:(W.at_ i:Int)<(W.n:Int):=by omega
 have hbc:=boxed hb0 (.cells #[PP (M.bs i),U (W.at_ i)] 171);have RC:=qd.new (w:=w.alloc (.cells ZA 102)) (T:=171) (n:=w.heap.size+1) [PP (M.bs i),U (W.at_ i)] (by simp);have RT1:=RT.boxed (.cells #[PP (M.bs i),U (W.at_ i)] 171);obtain⟨D,hw1⟩:∃D,(w.alloc (.cells ZA 102)).alloc (.cells #[PP (M.bs i),U (W.at_ i)] 171)=D:=⟨_,rfl⟩
 have sz1:D.heap.size=w.heap.size+2:=by rw[<-hw1];simp
 have RC1:qd D (w.heap.size+1) [PP (M.bs i),U (W.at_ i)]:=by rw[<-hw1];exact RC
 have HR:Hid (qd D w.heap.size ZL/\Bw w D/\D.heap.size=w.heap.size+2):=by
  rw[hw1]at RT1 hbc;exact⟨RT1,hbc,sz1⟩
 have d0:=cell_later HR.out.2.1 c0;have e0:=cell_later HR.out.2.1 y0;have e1:=cell_later HR.out.2.1 y1;have f0:=RC1.c 0;have f1:=RC1.c 1
 have hlt1:b<D.heap.size:=by omega
 have hpb1:pb<D.heap.size:=by omega
 have hc1:w.heap.size+1<D.heap.size:=by omega
 clear RT RC RT1 sz1 RC1 hbc;clear h hG hw hok;go_enter Tryz.func103,Tryz.ntmps103
 go_wp2_with fail
 refine IC.mono ?_;rintro e w2 ⟨rfl,hw2⟩;have hw3:=hw2.symm;clear hw2 IC;subst hw3
 go_wp2_with fail
 try rw[hw1]
 clear hw1 c0 c1 x0 x1 y0 y1 hcb hpb hlt hb0
 go_region
 have hbp:=(boxed (jcc _ D) (.cells #[.pointer (some (AD (M.bp (W.at_ i)) 0)),U (W.wall (W.at_ i))] 167)).drew;have RP:=(qd.new (w:=D) (T:=167) [.pointer (some (AD (M.bp (W.at_ i)) 0)),U (W.wall (W.at_ i))] rfl).drew;change qd (D.alloc (.cells #[.pointer (some (AD (M.bp (W.at_ i)) 0)),U (W.wall (W.at_ i))] 167)).drew D.heap.size [.pointer (some (AD (M.bp (W.at_ i)) 0)),U (W.wall (W.at_ i))]at RP;have g0:=RP.c 0;have g1:=RP.c 1;have f0:=cell_later hbp f0;have f1:=cell_later hbp f1;have hb2:=qa HR.out.2.1 hbp;have RT2:=HR.out.1.later hbp;have CM:=BG.out _ hb2;clear BG RP
 go_wp2_with fail
 refine CM.mono ?_;rintro e z ⟨j,d,l,o,p,q,r,s,a,f,g,rfl,Q,hkB,hsB⟩;have HRB:=hd1 (RT2.kept (hkB _ (jcd _) RT2.lt) hsB);have HM:=hd1 Q.out.1;have HX:Hid (∃w',w.heap.size<w'.heap.size/\qr z f g a/\Bw w w'/\qfx (qix (M.bs i) (j0 (W.S (W.at_ i)) (W.ses i) (W.wall (W.at_ i)))) (qeu (M.bp (W.at_ i)) (qcc (W.S (W.at_ i)) (W.ses i) (W.wall (W.at_ i))) (⟨⟨j,d,l,o,p,q,r,s,a⟩,f,g⟩:TxM).blk) w' (L (W.n+i)) (L (W.at_ i)) (⟨⟨j,d,l,o,p,q,r,s,a⟩,f,g⟩:TxM).blk z):=⟨_,RT2.lt,Q.out.2⟩;clear CM Q hkB hsB RT2 hb2 hbp f0 f1 g0 g1 d0 e0 e1 HR hlt1 hpb1 hc1;obtain⟨ce,hce⟩:∃ce,wcE W i=ce:=⟨_,rfl⟩;rw[hce];have hbC:=boxed (jcc _ z) (.cells (List.toArray (T9 j d l o p q r s f a.length g)) 102);have R:=qd.new (w:=z) (T:=102) (T9 j d l o p q r s f a.length g) rfl;change qd (z.alloc (.cells (List.toArray (T9 j d l o p q r s f a.length g)) 102)) z.heap.size (T9 j d l o p q r s f a.length g)at R;have F:=HRB.out.later hbC;have htl:=HRB.out.lt;obtain⟨x,hWC⟩:∃x,z.alloc (.cells (List.toArray (T9 j d l o p q r s f a.length g)) 102)=x:=⟨_,rfl⟩
 have HWX:Hid (∃B E,w.heap.size<B/\B<=x.heap.size/\PWo x b M (qd4 W i) E/\(∀m k,E m k->L m k\/B<=k)/\qc (λk=>L (W.n+i) k\/L (W.at_ i) k) w x/\(∀m k,m<W.n+W.c->(⟨⟨j,d,l,o,p,q,r,s,a⟩,f,g⟩:TxM).blk k->B<=k/\k<z.heap.size/\¬E m k)/\qr x f g a/\z.heap.size<x.heap.size):=by
  obtain⟨w',hlw,hwi,hbw,hl2⟩:=HX.out;have hl3:=hl2;obtain⟨_,_,_,_,_,_,_,_,tt⟩:=hl3;have ts:=tt.size
  have hs4:z.heap.size<x.heap.size:=by rw[<-hWC];simp
  rw[hWC]at hbC;obtain⟨E,H,I,J,C⟩:=u.out.1.com u.out.2.2.1 u.out.2.2.2.1 hbw hl2 hbC;exact⟨w'.heap.size,E,hlw,by omega,H,I,J,C,hwi.later hbC,hs4⟩
 rw[hWC]at R F;clear hbC HX HRB;by_cases hE:ce=0
 ·subst hE;rw[show jc 0=.nilIface from rfl];obtain⟨x0,x1,x2,x3,x4,x5,x6,x7,x8⟩:=R.c9;by_cases hsq:0<d
  ·have HT:Hid (∀E,PWo x b M (qd4 W i) E->(∀k,(⟨⟨j,d,l,o,p,q,r,s,a⟩,f,g⟩:TxM).blk k->w.heap.size<=k)->qr x f g a->Ca 151 #[PP b,.agg (List.toArray (T9 j d l o p q r s f a.length g))] x λe w'=>e=.returned (.tuple #[])/\qby x b M E (λk=>x.heap.size<=k) (qam ⟨j,d,l,o,p,q,r,s,a⟩ W.n (qd4 W i)) w'):=λE h1 h3 h4=>
        q5o j d l o p q r s a f g x h1 u.out.2.2.2.2.1 h4 (λk off e1 e2=>by
         have:=h3 k ⟨e1,off,e2⟩;refine⟨λe=>?_,λe=>?_⟩
         ·have:k<w.heap.size:=u.out.1.ltF k (.inl e);omega
         ·have:k<w.heap.size:=u.out.1.ltF k (.inr (.inr (.inr (.inl e))))
          omega) (by
         have:=u.out.2.2.2.2.2;rw[<-HM.out]at this
         exact this hsq)
   obtain⟨B,E,rB,rC,H,I,J,C,O,V⟩:=HWX.out;have TL:=HT.out E H (λk y=>by have:=(C (W.at_ i) k (by omega) y).1;omega) O
   have HF:Hid (∀X,qby x b M E (λk=>x.heap.size<=k) (qam ⟨j,d,l,o,p,q,r,s,a⟩ W.n (qd4 W i)) X->∃K,PW X b K (wcW W i)/\(∀k,K k->G k\/B<=k)/\qc G w X/\∀k,(⟨⟨j,d,l,o,p,q,r,s,a⟩,f,g⟩:TxM).blk k->B<=k/\¬K k):=λX hs=>by
        have e:wcW W i=qam ⟨j,d,l,o,p,q,r,s,a⟩ W.n (qd4 W i):=by
         unfold wcW;rw[<-HM.out,if_pos hsq]
        rw[e];have sm:=zx ⟨j,d,l,o,p,q,r,s,a⟩ W.n (qd4 W i);exact u.out.1.told u.out.2.1 u.out.2.2.1 u.out.2.2.2.1 sm.n sm.c (by omega) rC I J (λm k N y=>⟨(C m k N y).1,by have:=(C m k N y).2.1;omega,(C m k N y).2.2⟩) hs
   have Z:=hd3 O (show (∀k,(⟨⟨j,d,l,o,p,q,r,s,a⟩,f,g⟩:TxM).blk k->w.heap.size<=k/\k<z.heap.size)from λk y=>⟨by have:=(C (W.at_ i) k (by omega) y).1;omega,(C (W.at_ i) k (by omega) y).2.1⟩) V;have HNO:Hid (∀k,w.heap.size<=k->k≠b/\M.nv.ownBlock≠some k):=λk y=>⟨λe=>by have:k<w.heap.size:=u.out.1.ltF k (.inl e);omega,λe=>by have:k<w.heap.size:=u.out.1.ltF k (.inr (.inr (.inr (.inl e))));omega⟩;have HBB:=hd2 rB (PW.lt ⟨M,L,u.out.1,u.out.2.1⟩);clear HT H I J C O V HWX rB rC
   go_wp2_with (rw[hWC])
   refine TL.mono ?_;rintro e X ⟨rfl,hS⟩;have XD:=R.kept (hS.block (by have:=Z.out.2.2;omega) (HNO.out _ (by omega)).1 (HNO.out _ (by omega)).2) hS.size;have TD:=F.kept (hS.block (by have:=Z.out.2.2;omega) (HNO.out _ (jcd _)).1 (HNO.out _ (jcd _)).2) hS.size;have FIN:=HF.out X hS;have WD:qr X f g a:=qr.kept (m:=(⟨⟨j,d,l,o,p,q,r,s,a⟩,f,g⟩:TxM)) Z.out.1 (λk y=>hS.block (by have:=Z.out.2.1 k y;have:=Z.out.2.2;omega) (HNO.out k (Z.out.2.1 k y).1).1 (HNO.out k (Z.out.2.1 k y).1).2);have P:=hd2 WD FIN;clear x0 x1 x2 x3 x4 x5 x6 x7 x8 TL HF hS FIN WD R F;obtain⟨x0,x1,x2,x3,x4,x5,x6,x7,x8⟩:=XD.c9;obtain⟨r0,H,I,J,C,O,V,r7,r8⟩:=TD.c9;obtain⟨p0,p1,p2,p3,p4,p5,p6,p7,p8⟩:=TD.f9;have RZ:=yz TD rfl j d l o p q r s (.slice f a.length g);have END:=qxt (m:=(⟨⟨j,d,l,o,p,q,r,s,a⟩,f,g⟩:TxM)) P.out HBB.out.2 HBB.out.1 j d l o p q r s (.slice f a.length g);clear P XD TD
   go_wp2_with fail
   exact bodyPost_ret (qdl RZ rfl rfl) rfl ⟨(⟨⟨j,d,l,o,p,q,r,s,a⟩,f,g⟩:TxM),by rw[hce];rfl,HM.out,END⟩
  have P:Hid (∃B,w.heap.size<B/\(∀k,G k->k<w.heap.size)/\qr x f g a/\∃K,PW x b K (wcW W i)/\(∀k,K k->G k\/B<=k)/\qc G w x/\∀k,(⟨⟨j,d,l,o,p,q,r,s,a⟩,f,g⟩:TxM).blk k->B<=k/\¬K k):=by
   obtain⟨B,E,rB,rC,H,I,J,C,O,V⟩:=HWX.out
   have e:wcW W i=qd4 W i:=by
        unfold wcW;rw[<-HM.out,if_neg hsq]
   rw[e];exact⟨B,rB,PW.lt ⟨M,L,u.out.1,u.out.2.1⟩,O,u.out.1.told (W1:=qd4 W i) u.out.2.1 u.out.2.2.1 u.out.2.2.2.1 rfl rfl (by omega) rC I J (λm k N y=>⟨(C m k N y).1,by have:=(C m k N y).2.1;omega,(C m k N y).2.2⟩) (qby.none H (jcc _ _) _)⟩
  obtain⟨r0,H,I,J,C,O,V,r7,r8⟩:=F.c9;obtain⟨p0,p1,p2,p3,p4,p5,p6,p7,p8⟩:=F.f9;have RZ:=yz F rfl j d l o p q r s (.slice f a.length g);obtain⟨B,hB,hGl,hF⟩:=P.out;have END:=qxt (m:=(⟨⟨j,d,l,o,p,q,r,s,a⟩,f,g⟩:TxM)) hF hGl hB j d l o p q r s (.slice f a.length g);clear P HWX R F hF hGl
  go_wp2_with (rw[hWC])
  exact bodyPost_ret (qdl RZ rfl rfl) rfl ⟨(⟨⟨j,d,l,o,p,q,r,s,a⟩,f,g⟩:TxM),by rw[hce];rfl,HM.out,END⟩
 have P:Hid (∃B,w.heap.size<B/\(∀k,G k->k<w.heap.size)/\wcT W i=tx0.t/\qr x tx0.wa tx0.wc tx0.t.ws/\∃K,PW x b K (wcW W i)/\(∀k,K k->G k\/B<=k)/\qc G w x/\∀k,tx0.blk k->B<=k/\¬K k):=by
  obtain⟨B,E,rB,rC,H,I,J,C,O,V⟩:=HWX.out;have e0:wcT W i=tx0.t:=(qvj (by have:=hce;unfold wcE at this;rw[this];exact hE)).1
  have e:wcW W i=qd4 W i:=by
   unfold wcW;rw[e0,if_neg (by decide)]
  rw[e];exact⟨B,rB,PW.lt ⟨M,L,u.out.1,u.out.2.1⟩,e0,qk4 _,u.out.1.told (W1:=qd4 W i) (Y:=tx0.blk) u.out.2.1 u.out.2.2.1 u.out.2.2.2.1 rfl rfl (by omega) rC I J (λm k N y=>absurd y (qfb k)) (qby.none H (jcc _ _) _)⟩
 rw[show jc ce=.iface 26 (U ce) by unfold jc;rw[if_neg hE]];obtain⟨r0,H,I,J,C,O,V,r7,r8⟩:=F.c9;obtain⟨p0,p1,p2,p3,p4,p5,p6,p7,p8⟩:=F.f9;have RZ:=yz F rfl 0 0 0 0 0 0 0 0 (.slice none 0 0);obtain⟨B,hB,hGl,e0,hF⟩:=P.out;have END:=qxt (m:=tx0) hF hGl hB 0 0 0 0 0 0 0 0 (.slice none 0 0);clear P HWX R F hF hGl
 go_wp2_with (rw[hWC])
 exact bodyPost_ret (qdl RZ rfl rfl) rfl ⟨tx0,by rw[hce];unfold jc;rw[if_neg hE];rfl,e0.symm,END⟩
end
section
open Tryz
variable {i:Nat}
section
variable {w:World} {b:Nat} {G:Nat->Prop} {W:WoS}
theorem PW.lens (h:PW w b G W):∃a0 a a1 d a2 e,w.cell? (AD b 0)=some (.slice a0 W.n a)/\w.cell? (AD b 1)=some (.slice a1 W.c d)/\w.cell? (AD b 2)=some (.slice a2 W.net.length e)/\w.cell? (AD b 3)=some (U W.lost)/\b<w.heap.size:=by
 obtain⟨M,q,h,_⟩:=h;obtain⟨a0,a,k,_⟩:=qq h.pr;obtain⟨a1,d,m,_⟩:=qq h.cr;obtain⟨a2,e,o,_⟩:=qq h.nr
 have p:M.l.length=W.net.length:=by rw[<-h.nl];simp
 have f:=h.box.c 0;have g:=h.box.c 1;have j:=h.box.c 2;rw[k]at f;rw[m]at g;rw[o,p]at j;exact⟨a0,a,a1,d,a2,e,f,g,j,h.box.c 3,h.box.lt⟩
theorem qt8 (k:Int) (w:World) (h:PW w b G W) (n:¬(0<=k/\k<(W.c:Int))):
 Ca 98 #[PP b,U k] w (Rn (jc 2) w):=by
 obtain⟨a0,o,a1,p,a2,r,g,a,j,l,s⟩:=h.lens
 have d:=yf (k:=k) (v:=false) w a (by
  have q:¬(0<=k)\/¬(k<(W.c:Int)):=by omega
  rcases q with q|q<;>simp[q])
 clear h g a j l;go_enter func98,ntmps98
 go_wp2_with fail
 refine d.mono ?_;rintro e w2 ⟨rfl,f⟩;have m:=f.symm;clear f d;subst m
 go_wp2_with fail
 go_ret;exact⟨rfl,jcc _ _⟩
theorem qzt (k:Int) (key:Int) (w:World) (h:PW w b G W) (n:¬(0<=k/\k<(W.c:Int))):
 Ca 113 #[PP b,U k,U key] w (Rn (.tuple #[.string ⟨#[]⟩,jc 2]) w):=by
 obtain⟨a0,o,a1,p,a2,r,g,a,j,l,s⟩:=h.lens
 have d:=yf (k:=k) (v:=false) w a (by
  have q:¬(0<=k)\/¬(k<(W.c:Int)):=by omega
  rcases q with q|q<;>simp[q])
 clear h g a j l;go_enter func113,ntmps113
 go_wp2_with fail
 refine d.mono ?_;rintro e w2 ⟨rfl,f⟩;have m:=f.symm;clear f d;subst m
 go_wp2_with fail
 go_ret2;exact⟨rfl,jcc _ _⟩
theorem qm5 (k:Int) (a:Int) (d:ByteArray) (f:Bool) (w:World) (h:PW w b G W) (s:¬(0<=k/\k<(W.c:Int))):
 Ca 105 #[PP b,U k,.agg #[U a,.string d,.bool f]] w (Rn (jc 2) w):=by
 obtain⟨a0,t,a1,u,a2,x,m,g,n,o,y⟩:=h.lens;have p:=boxed (jcc _ w) (.cells #[U a,.string d,.bool f] 100)
 have j:=yf (k:=k) (v:=false) (w.nu #[U a,.string d,.bool f] 100) (cell_later p g) (by
  have q:¬(0<=k)\/¬(k<(W.c:Int)):=by omega
  rcases q with q|q<;>simp[q])
 clear h m g n o;go_enter func105,ntmps105
 go_wp2_with fail
 refine j.mono ?_;rintro e w2 ⟨rfl,l⟩;have r:=l.symm;clear l j;subst r
 go_wp2_with fail
 go_ret;exact⟨rfl,boxed (jcc _ w) _⟩
theorem qsr (k:Int) (w:World) (h:PW w b G W) (t:¬(0<=k/\k<(W.c:Int))):
 Ca 103 #[PP b,U k] w (Rn (.tuple #[.agg ZA,jc 2]) w):=by
 obtain⟨a0,u,a1,x,a2,y,m,d,o,p,z⟩:=h.lens;have g:=boxed (jcc _ w) (.cells ZA 102);have a:=qd.new (w:=w) (T:=102) (n:=w.heap.size) ZL rfl;have B:=a.c 0;have C:=a.f 0;have D:=a.c 1;have f1:=a.f 1;have E:=a.c 2;have F:=a.f 2;have H:=a.c 3;have I:=a.f 3;have J:=a.c 4;have K:=a.f 4;have L:=a.c 5;have M:=a.f 5;have N:=a.c 6;have O:=a.f 6;have P:=a.c 7;have Q:=a.f 7;have R:=a.c 8;have S:=a.f 8;have RS:=yz a rfl 0 0 0 0 0 0 0 0 (.slice none 0 0);simp only[js]at RS;have r:Hid _:=a;clear a RS
 have j:=yf (k:=k) (v:=false) (w.nu ZA 102) (cell_later g d) (by
  have q:¬(0<=k)\/¬(k<(W.c:Int)):=by omega
  rcases q with q|q<;>simp[q])
 clear h m d o p;go_enter func103,ntmps103
 go_wp2_with fail
 refine j.mono ?_;rintro e w2 ⟨rfl,l⟩;have s:=l.symm;clear l j;subst s
 go_wp2_with fail
 (try simp only[Exit.inBlock,Exit.then])
 exact bodyPost_ret (qdl r.out rfl rfl) rfl ⟨rfl,g⟩
theorem qwi (k:Int) (w:World) (h:PW w b G W) (n:¬(0<=k/\k<(W.c:Int))):
 Ca 94 #[PP b,U k] w (Rn (jc 2) w):=by
 obtain⟨a0,o,a1,p,a2,r,g,a,j,l,s⟩:=h.lens
 have d:=yf (k:=k) (v:=false) w a (by
  have q:¬(0<=k)\/¬(k<(W.c:Int)):=by omega
  rcases q with q|q<;>simp[q])
 clear h g a j l;go_enter func94,ntmps94
 go_wp2_with fail
 refine d.mono ?_;rintro e w2 ⟨rfl,f⟩;have m:=f.symm;clear f d;subst m
 go_wp2_with fail
 go_ret;exact⟨rfl,jcc _ _⟩
theorem qo9 (k:Int) (w:World) (h:PW w b G W) (m:¬(0<=k/\k<(W.net.length:Int))):
 Ca 104 #[PP b,U k] w (Rn (jc 2) w):=by
 obtain⟨a0,n,a1,o,a2,p,f,g,a,j,r⟩:=h.lens
 have c:=qey (k:=k) (v:=false) w a (by
  have q:¬(0<=k)\/¬(k<(W.net.length:Int)):=by omega
  rcases q with q|q<;>simp[q])
 clear h f g a j;go_enter func104,ntmps104
 go_wp2_with fail
 refine c.mono ?_;rintro e w2 ⟨rfl,d⟩;have l:=d.symm;clear d c;subst l
 go_wp2_with fail
 go_ret;exact⟨rfl,jcc _ _⟩
theorem qud (k:Int) (w:World) (h:PW w b G W) (m:¬(0<=k/\k<(W.net.length:Int))):
 Ca 109 #[PP b,U k] w (Rn (jc 2) w):=by
 obtain⟨a0,n,a1,o,a2,p,f,g,a,j,r⟩:=h.lens
 have c:=qey (k:=k) (v:=false) w a (by
  have q:¬(0<=k)\/¬(k<(W.net.length:Int)):=by omega
  rcases q with q|q<;>simp[q])
 clear h f g a j;go_enter func109,ntmps109
 go_wp2_with fail
 refine c.mono ?_;rintro e w2 ⟨rfl,d⟩;have l:=d.symm;clear d c;subst l
 go_wp2_with fail
 go_ret;exact⟨rfl,jcc _ _⟩
theorem qss (k:Int) (w:World) (h:PW w b G W) (m:¬(0<=k/\k<(W.net.length:Int))):
 Ca 116 #[PP b,U k] w (Rn (jc 2) w):=by
 obtain⟨a0,n,a1,o,a2,p,f,g,a,j,r⟩:=h.lens
 have c:=qey (k:=k) (v:=false) w a (by
  have q:¬(0<=k)\/¬(k<(W.net.length:Int)):=by omega
  rcases q with q|q<;>simp[q])
 clear h f g a j;go_enter func116,ntmps116
 go_wp2_with fail
 refine c.mono ?_;rintro e w2 ⟨rfl,d⟩;have l:=d.symm;clear d c;subst l
 go_wp2_with fail
 go_ret;exact⟨rfl,jcc _ _⟩
theorem qt6 (k:Int) (w:World) (h:PW w b G W) (m:¬(0<=k/\k<(W.n:Int))):
 Ca 115 #[PP b,U k] w (Rn (jc 2) w):=by
 obtain⟨a0,o,a1,p,a2,r,a,f,g,j,s⟩:=h.lens
 have c:=yi (k:=k) (v:=false) w a (by
  have q:¬(0<=k)\/¬(k<(W.n:Int)):=by omega
  rcases q with q|q<;>simp[q])
 clear h a f g j;go_enter func115,ntmps115
 go_wp2_with fail
 refine c.mono ?_;rintro e w2 ⟨rfl,d⟩;have l:=d.symm;clear d c;subst l
 go_wp2_with fail
 go_ret;exact⟨rfl,jcc _ _⟩
theorem qy6 (k:Int) (y:Int) (w:World) (h:PW w b G W) (m:¬(0<=k/\k<(W.n:Int))):
 Ca 106 #[PP b,U k,U y] w (Rn (jc 2) w):=by
 obtain⟨a0,o,a1,p,a2,r,a,f,g,j,s⟩:=h.lens
 have c:=yi (k:=k) (v:=false) w a (by
  have q:¬(0<=k)\/¬(k<(W.n:Int)):=by omega
  rcases q with q|q<;>simp[q])
 clear h a f g j;go_enter func106,ntmps106
 go_wp2_with fail
 refine c.mono ?_;rintro e w2 ⟨rfl,d⟩;have l:=d.symm;clear d c;subst l
 go_wp2_with fail
 go_ret;exact⟨rfl,jcc _ _⟩
theorem qyb (k:Int) (y:Int) (w:World) (h:PW w b G W) (n:¬(0<=k/\k<(W.c:Int))):
 Ca 112 #[PP b,U k,U y] w (Rn (jc 2) w):=by
 obtain⟨a0,o,a1,p,a2,r,g,a,j,l,s⟩:=h.lens
 have d:=yf (k:=k) (v:=false) w a (by
  have q:¬(0<=k)\/¬(k<(W.c:Int)):=by omega
  rcases q with q|q<;>simp[q])
 clear h g a j l;go_enter func112,ntmps112
 go_wp2_with fail
 refine d.mono ?_;rintro e w2 ⟨rfl,f⟩;have m:=f.symm;clear f d;subst m
 go_wp2_with fail
 go_ret;exact⟨rfl,jcc _ _⟩
theorem qve (y:Int) (w:World) (h:PW w b G W) (hi:i<W.c) (s:¬(0<=y/\y<(W.n:Int))):
 Ca 112 #[PP b,U i,U y] w (Rn (jc 2) w):=by
 obtain⟨a0,t,a1,u,a2,x,a,d,m,o,z⟩:=h.lens;have f:=yf (k:=i) (v:=true) w d (by simp;omega)
 have g:=yi (k:=y) (v:=false) w a (by
  have q:¬(0<=y)\/¬(y<(W.n:Int)):=by omega
  rcases q with q|q<;>simp[q])
 clear h a d m o;go_enter func112,ntmps112
 go_wp2_with fail
 refine f.mono ?_;rintro e w2 ⟨rfl,j⟩;have p:=j.symm;clear j f;subst p
 go_wp2_with fail
 refine g.mono ?_;rintro e B ⟨rfl,l⟩;have r:=l.symm;clear l g;subst r
 go_wp2_with fail
 go_ret;exact⟨rfl,jcc _ _⟩
theorem qvi (y:Int) (w:World) (h:PW w b G W) (hi:i<W.n) (m:¬(0<=y/\y<=1099511627776)):
 Ca 106 #[PP b,U i,U y] w (Rn (jc 2) w):=by
 obtain⟨a0,o,a1,p,a2,q,a,f,g,j,r⟩:=h.lens;have c:=yi (k:=i) (v:=true) w a (by simp;omega);clear h a f g j;by_cases s:y<0;skip
 rotate_left
 have t:1099511627776<y:=by omega
 all_goals
  go_enter func106,ntmps106
  go_wp2_with fail
  refine c.mono ?_;rintro e w2 ⟨rfl,d⟩;have l:=d.symm;clear d c;subst l
  go_wp2_with fail
  go_ret;exact⟨rfl,jcc _ _⟩
theorem q2g (k:Int) (y:Int) (w:World) (h:PW w b G W) (m:¬(0<=k/\k<(W.n:Int))):
 Ca 96 #[PP b,U k,U y] w (Rn (jc 2) w):=by
 obtain⟨a0,o,a1,p,a2,r,a,f,g,j,s⟩:=h.lens
 have c:=yi (k:=k) (v:=false) w a (by
  have q:¬(0<=k)\/¬(k<(W.n:Int)):=by omega
  rcases q with q|q<;>simp[q])
 clear h a f g j;go_enter func96,ntmps96
 go_wp2_with fail
 refine c.mono ?_;rintro e w2 ⟨rfl,d⟩;have l:=d.symm;clear d c;subst l
 go_wp2_with fail
 go_ret;exact⟨rfl,jcc _ _⟩
theorem qxx (y:Int) (w:World) (h:PW w b G W) (hi:i<W.n) (r:¬(0<=y/\y<(W.n:Int))):
 Ca 96 #[PP b,U i,U y] w (Rn (jc 2) w):=by
 obtain⟨a0,s,a1,t,a2,u,a,j,l,m,x⟩:=h.lens;have c:=yi (k:=i) (v:=true) w a (by simp;omega)
 have d:=yi (k:=y) (v:=false) w a (by
  have q:¬(0<=y)\/¬(y<(W.n:Int)):=by omega
  rcases q with q|q<;>simp[q])
 clear h a j l m;go_enter func96,ntmps96
 go_wp2_with fail
 refine c.mono ?_;rintro e w2 ⟨rfl,f⟩;have o:=f.symm;clear f c;subst o
 go_wp2_with fail
 refine d.mono ?_;rintro e z ⟨rfl,g⟩;have p:=g.symm;clear g d;subst p
 go_wp2_with fail
 go_ret;exact⟨rfl,jcc _ _⟩
theorem q7z (w:World) (h:PW w b G W):Ca 111 #[PP b] w λe w'=>e=.returned (U W.lost)/\w'=w:=by
 obtain⟨a0,f,a1,g,a2,j,a,c,d,k,l⟩:=h.lens;clear h a c d;go_enter func111,ntmps111
 go_wp2_with fail
 go_ret;exact⟨rfl,rfl⟩
theorem qxw (k:Int) (w:World) (h:PW w b G W) (t:¬(0<=k/\k<(W.n:Int))):
 Ca 114 #[PP b,U k] w (Rn (.tuple #[.agg #[U 0,U 0,U 0,U 0],U 0,.slice none 0 0,U 0,jc 2]) w):=by
 obtain⟨a0,u,a1,x,a2,y,d,m,o,p,z⟩:=h.lens;have g:=boxed (jcc _ w) (.cells #[U 0,U 0,U 0,U 0] 77);have a:=qd.new (w:=w) (T:=77) (n:=w.heap.size) [U 0,U 0,U 0,U 0] rfl;have B:=a.c 0;have C:=a.f 0;have D:=a.c 1;have f1:=a.f 1;have E:=a.c 2;have F:=a.f 2;have H:=a.c 3;have I:=a.f 3;have r:Hid _:=a;clear a
 have j:=yi (k:=k) (v:=false) (w.nu #[U 0,U 0,U 0,U 0] 77) (cell_later g d) (by
  have q:¬(0<=k)\/¬(k<(W.n:Int)):=by omega
  rcases q with q|q<;>simp[q])
 clear h d m o p;go_enter func114,ntmps114
 go_wp2_with fail
 refine j.mono ?_;rintro e w2 ⟨rfl,l⟩;have s:=l.symm;clear l j;subst s
 go_wp2_with fail
 (try simp only[Exit.inBlock,Exit.then])
 exact bodyPost_ret (qlr r.out rfl rfl rfl rfl rfl) rfl ⟨rfl,g⟩
theorem qtc (k:Int) (w:World) (h:PW w b G W) (u:¬(0<=k/\k<(W.c:Int))):
 Ca 101 #[PP b,U k] w (Rn (.tuple #[U 0,.agg #[U 0,U 0,U 0,U 0],.agg #[U 0,U 0,U 0,U 0],.bool false,jc 2]) w):=by
 obtain⟨a0,x,a1,y,a2,z,p,g,r,s,B⟩:=h.lens;have j:=boxed (boxed (jcc _ w) (.cells #[U 0,U 0,U 0,U 0] 77)) (.cells #[U 0,U 0,U 0,U 0] 77);have a:=(qd.new (w:=w) (T:=77) (n:=w.heap.size) [U 0,U 0,U 0,U 0] rfl).later (boxed (jcc _ _) (.cells #[U 0,U 0,U 0,U 0] 77));have d:=qd.new (w:=w.nu #[U 0,U 0,U 0,U 0] 77) (T:=77) (n:=w.heap.size+1) [U 0,U 0,U 0,U 0] (by simp);have C:=a.c 0;have D:=a.f 0;have E:=d.c 0;have F:=d.f 0;have H:=a.c 1;have f1:=a.f 1;have I:=d.c 1;have J:=d.f 1;have K:=a.c 2;have L:=a.f 2;have M:=d.c 2;have N:=d.f 2;have O:=a.c 3;have P:=a.f 3;have Q:=d.c 3;have R:=d.f 3;have l:Hid _:=And.intro a d;clear a d
 have m:=yf (k:=k) (v:=false) ((w.nu #[U 0,U 0,U 0,U 0] 77).nu #[U 0,U 0,U 0,U 0] 77) (cell_later j g) (by
  have q:¬(0<=k)\/¬(k<(W.c:Int)):=by omega
  rcases q with q|q<;>simp[q])
 clear h p g r s;go_enter func101,ntmps101
 go_wp2_with fail
 refine m.mono ?_;rintro e w2 ⟨rfl,o⟩;have t:=o.symm;clear o m;subst t
 go_wp2_with fail
 (try simp only[Exit.inBlock,Exit.then])
 exact bodyPost_ret (qjo l.out.1 l.out.2 rfl rfl rfl rfl rfl) rfl ⟨rfl,j⟩
theorem q2a {n c:Int} (a:¬((1<=n/\n<=4)/\(0<=c/\c<=6))) (w:World):
 Ca 65 #[U n,U c] w (Rn (.tuple #[.pointer none,jc 2]) w):=by
 by_cases d:n<1;skip
 rotate_left
 by_cases e:4<n;skip
 rotate_left
 by_cases f:c<0;skip
 rotate_left
 have g:6<c:=by omega
 all_goals
  go_enter func65,ntmps65
  go_wp2_with fail
  go_ret2;exact⟨rfl,jcc _ _⟩
end
end
open Tryz
variable {d:ByteArray}
theorem ja9 (h:d.toList.isEmpty=false):d.size≠0:=λe=>by
 rw[qca]at h;have:=yh d;rw[e]at this;rw[List.length_eq_zero_iff.1 this]at h;cases h
theorem q73 (h:d.toList.isEmpty=true):d.size=0:=by
 rw[qca,List.isEmpty_iff]at h;rw[<-yh,h];rfl
variable {b:Nat} {s:qy}
theorem qnz {w j l:World} {g c H:Nat} {a:Option Addr} {cap:Nat} {x:Wr} (h:qgs w b (.slice a s.ws.length cap) s) (f:Bw w j) (p:l.ownsRow 0 100 3 (.slice (PT g) (s.ws.length+1) c) (s.ws.length+1) (qcf s.ws++wrC x)) (m:j.grownBy l (Value.slice a s.ws.length cap).ownBlock) (n:(Value.slice a s.ws.length cap).ownBlock=some g\/g=H) (t:j.heap.size<=H):
 qep w b (.slice a s.ws.length cap) {s with ws:=s.ws++[x]} (l.setCell (AD b 9) (.slice (PT g) (s.ws.length+1) c)):=by
 have q:=h.box.later f;have r:=q.grown m (λe=>h.nb e.symm);have u:=h.box.lt
 have o:g≠b:=by
  rcases n with e|e
  ·intro i;rw[i]at e;exact h.nb e
  have:=f.size;omega
 have R:=r.set 9 (.slice (PT g) (s.ws.length+1) c) (by simp[jr]);refine⟨.slice (PT g) (s.ws.length+1) c,⟨R,?_,λe=>o (by simpa[Value.ownBlock]using e)⟩,λk e=>?_,?_⟩
 ·show World.ownsRow _ 0 _ 3 _ (s.ws++[x]).length (qcf (s.ws++[x]));rw[qkh,jcl];refine qf p (λk e=>?_)
  have e:g=k:=by simpa[Value.ownBlock]using e
  rw[<-e];exact jce _ _ _ _ o
 ·have e:g=k:=by simpa[Value.ownBlock]using e
  rw[<-e];rcases n with i|i
  ·exact .inl i
  exact .inr (by have:=f.size;omega)
 exact((qc.ofBelow f).trans (qc.grown m (λk e=>.inr e))).trans (qc.setCell _ _ _ (.inl rfl))
theorem qsb {wv:Value} (x:Wr) (w:World) (h:qgs w b wv s) (hl:s.ws.length<=1000000):
 Ca 33 #[PP b,wrV x] w λe w'=>e=.returned (U (qaj s x))/\qep w b wv (qd2 s x) w':=by
 have NO:∀w9 ev,qaj s x=ev->ev≠0->Bw w w9->Hid ((.returned (U ev):Ending)=.returned (U (qaj s x))/\qep w b wv (qd2 s x) w9):=λw9 ev e1 e2 e3=>by
  show _/\_;rw[e1,show qd2 s x=s by unfold qd2;rw[if_neg (by rw[e1];exact e2)]];exact⟨rfl,qep.same h e3⟩
 obtain⟨a,cap,rfl,hWi⟩:=qbg h.row;obtain⟨f,i,k⟩:=x;have hb:=boxed (jcc _ w) (.cells #[U f,.string i,.bool k] 100);have RX:=qd.new (w:=w) (T:=100) [U f,.string i,.bool k] rfl;change qd (w.alloc (.cells #[U f,.string i,.bool k] 100)) w.heap.size [U f,.string i,.bool k]at RX;have HS:=hd1 h;have S:=hd1 hl;have B:=h.box.later hb;have HNO:=hd1 NO;show Ca 33 #[PP b,.agg #[U f,.string i,.bool k]] w _;have k8:=B.c 8;have x0:=RX.c 0;have x1:=RX.c 1;have x2:=RX.c 2;cases ho:s.opn
 ·rw[ho]at k8
  have E:qaj s ⟨f,i,k⟩=6:=by unfold qaj;rw[if_pos ho]
  have O:=(HNO.out _ 6 E (by decide) hb).out;go_enter func33,ntmps33
  go_wp2_with fail
  go_ret;exact O
 rw[ho]at k8
 have n1:¬s.opn=false:=by rw[ho];decide
 have GO:Hid (∀j,Below (w.alloc (.cells #[U f,.string i,.bool k] 100)).heap.size (w.alloc (.cells #[U f,.string i,.bool k] 100)) j->qgs j b (.slice a s.ws.length cap) s/\qd j w.heap.size [U f,.string i,.bool k]/\Bw w j):=λj n=>⟨(HS.out.later hb).later n,RX.later n,qa hb n⟩;cases hin:inB f 0 7
 ·have n2:f<0\/8<=f:=by
   simp only[inB,Bool.and_eq_false_iff,decide_eq_false_iff_not]at hin;omega
  have E:qaj s ⟨f,i,k⟩=2:=by unfold qaj;rw[if_neg n1,if_pos n2]
  have O:Hid (∀j,Bw w j->(.returned (U 2):Ending)=.returned (U (qaj s ⟨f,i,k⟩))/\qep w b (.slice a s.ws.length cap) (qd2 s ⟨f,i,k⟩) j):=λj n=>(HNO.out _ 2 E (by decide) n).out;have IN:=vj hin (w.alloc (.cells #[U f,.string i,.bool k] 100));go_enter func33,ntmps33
  go_wp2_with fail
  refine IN.mono ?_;rintro e F ⟨rfl,P⟩;obtain⟨_,_,G⟩:=GO.out F P
  go_wp2_with fail
  go_ret;exact O.out _ G
 have n2:¬(f<0\/8<=f):=by
  simp only[inB,jct,decide_eq_true_eq]at hin;omega
 have HK:Hid (0<=f/\f<8):=⟨by omega,by omega⟩;have IN:=vj hin (w.alloc (.cells #[U f,.string i,.bool k] 100));by_cases hlen:12<(i.size:Int)
 ·have E:qaj s ⟨f,i,k⟩=4:=by unfold qaj;rw[if_neg n1,if_neg n2,if_pos (by show 12<i.size;omega)]
  have O:Hid (∀j,Bw w j->(.returned (U 4):Ending)=.returned (U (qaj s ⟨f,i,k⟩))/\qep w b (.slice a s.ws.length cap) (qd2 s ⟨f,i,k⟩) j):=λj n=>(HNO.out _ 4 E (by decide) n).out;go_enter func33,ntmps33
  go_wp2_with fail
  refine IN.mono ?_;rintro e F ⟨rfl,P⟩;obtain⟨_,o,G⟩:=GO.out F P;have V:=o.c 1
  go_wp2_with fail
  go_ret;exact O.out _ G
 have n3:¬12<i.size:=by omega
 cases hgg:(k&&!i.toList.isEmpty)
 ·have HT:Hid (¬(k=true/\i.size≠0)):=by
   show ¬_;rintro ⟨e1,e2⟩;rw[e1]at hgg;exact e2 (q73 (by simpa using hgg))
  have OW:Hid (∀j,qgs j b (.slice a s.ws.length cap) s->Ca 78 #[PP b,U f] j λe w'=>e=.returned (.tuple #[wrV (qav s.ws f),.bool (qay s.ws f).isSome])/\Bw j w'):=λj n=>qla f j n;have ALL:Hid (∀j,qgs j b (.slice a s.ws.length cap) s->Ca 80 #[PP b] j λe w'=>∃v,e=.returned v/\w'.ownsRow j.heap.size 100 3 v (jh s.ws).length (qcf (jh s.ws))/\Bw j w'):=λj n=>qp1 j n;obtain⟨⟨r,t,z⟩,hoo⟩:∃y,qav s.ws f=y:=⟨_,rfl⟩
  have HF:Hid (¬(qay s.ws f=none/\5<=(jh s.ws).length)->qaj s ⟨f,i,k⟩=0/\qd2 s ⟨f,i,k⟩={s with ws:=s.ws++[⟨f,i,k⟩]}):=λhno=>by
   have E:qaj s ⟨f,i,k⟩=0:=by unfold qaj;rw[if_neg n1,if_neg n2,if_neg n3,if_neg HT.out,if_neg hno]
   exact⟨E,by unfold qd2;rw[if_pos E]⟩
  have HF2:Hid ((qay s.ws f=none/\5<=(jh s.ws).length)->qaj s ⟨f,i,k⟩=12):=λhno=>by
   unfold qaj;rw[if_neg n1,if_neg n2,if_neg n3,if_neg HT.out,if_pos hno]
  have O:Hid (∀j,qaj s ⟨f,i,k⟩=12->Bw w j->(.returned (U 12):Ending)=.returned (U (qaj s ⟨f,i,k⟩))/\qep w b (.slice a s.ws.length cap) (qd2 s ⟨f,i,k⟩) j):=λj E n=>(HNO.out _ 12 E (by decide) n).out;obtain⟨i0,hi,hz0,hz1,hz2⟩:=info_parts qmn;rw[hoo]at OW;cases k
  ·clear hgg;go_enter func33,ntmps33
   go_wp2_with fail
   refine IN.mono ?_;rintro e F ⟨rfl,P⟩;obtain⟨W,o,G⟩:=GO.out F P;have y0:=o.c 0;have V:=o.c 1;have y2:=o.c 2;have Q:=OW.out F W;cases hw:qay s.ws f with
   |some y=>
    rw[hw,show (some y).isSome=true from rfl,show wrV ⟨r,t,z⟩=.agg #[U r,.string t,.bool z]from rfl]at Q;have H:=hd1 (HF.out (λe=>by rw[hw]at e;cases e.1))
    go_wp2_with fail
    refine Q.mono ?_;rintro e w2 ⟨rfl,X⟩;have C:=boxed X (.cells #[U r,.string t,.bool z] 100);have p:=W.later C;have q:=o.later C;have I:=qa G C;obtain⟨l,J⟩:∃l,w2.alloc (.cells #[U r,.string t,.bool z] 100)=l:=⟨_,rfl⟩;rw[J]at p q I
    go_wp2_with (rw[J])
    have m:=p.later ((jcc _ l).drew);have Y:=m.row;have hbl:b<l.heap.size:=m.box.lt;have hxl:=q.lt;have z9:=p.box.c 9;have g9:=p.box.free 9 (by simp[jr]);have y0:=q.c 0;have V:=q.c 1;have y2:=q.c 2
    go_region_law (refine step_append_lies _ rfl (.tmp 46) (.tmp 48) 88 rfl 0 100 i0 (.agg #[U 0,.string ⟨#[]⟩,.bool false]) 3 32 underlying88 hi hz0 hz1 hz2 rfl (by decide) (.slice a s.ws.length cap) s.ws.length (qcf s.ws) (by simp[Act.eval]) (Y.alloc _) (AD l.heap.size 0) 1 1 (wrC ⟨f,i,false⟩) (by simp[Act.eval]) rfl (World.news_of_block (heap_alloc_new l.drew (.cells #[U f,.string i,.bool false] 100))) (by intro u K;simp[wrC]at K;rcases K with rfl|rfl|rfl<;>rfl) (by decide) (by have:=S.out;simp only[maxLen];omega) (by have:=S.out;omega) (by simp) _ rfl ?_
                   intro g cap9 wE Z L aa ltE;have M:=((m.box).boxed (.cells #[U f,.string i,.bool false] 100)).grown L (λe=>m.nb e.symm);have e9:=M.c 9
                   have h9:=M.free 9 (by simp[jr]))
    all_goals
     have N:=qnz HS.out (boxed ((qa I ((jcc _ l).drew))) (.cells #[U f,.string i,.bool false] 100)) Z L aa (by simp)
     go_wp2_with fail
     go_ret;refine⟨by rw[H.out.1];rfl,?_⟩;rw[H.out.2];exact N
   |none=>
    rw[hw,show (none:Option Wr).isSome=false from rfl,show wrV ⟨r,t,z⟩=.agg #[U r,.string t,.bool z]from rfl]at Q
    go_wp2_with fail
    refine Q.mono ?_;rintro e w2 ⟨rfl,X⟩;have C:=boxed X (.cells #[U r,.string t,.bool z] 100);have p:=W.later C;have q:=o.later C;have I:=qa G C;obtain⟨l,J⟩:∃l,w2.alloc (.cells #[U r,.string t,.bool z] 100)=l:=⟨_,rfl⟩;rw[J]at p q I;have AL:=ALL.out l p
    go_wp2_with (rw[J])
    refine AL.mono ?_;rintro e D ⟨v,rfl,ownv,ab⟩;obtain⟨va,vc,rfl,hWv⟩:=qbg ownv;have SA:=p.later ab;have R:=q.later ab;have hbwA:=qa I ab;by_cases n:(5:Int)<=((jh s.ws).length:Int)
    ·have N:=O.out D (HF2.out ⟨hw,by omega⟩) hbwA
     go_wp2_with fail
     go_ret;exact N
    have H:=hd1 (HF.out (λe=>by have:=e.2;omega))
    go_wp2_with fail
    have m:=SA.later ((jcc _ D).drew);have Y:=m.row;have hbl:b<D.heap.size:=m.box.lt;have hxl:=R.lt;have z9:=SA.box.c 9;have g9:=SA.box.free 9 (by simp[jr]);have y0:=R.c 0;have V:=R.c 1;have y2:=R.c 2
    go_region_law (refine step_append_lies _ rfl (.tmp 46) (.tmp 48) 88 rfl 0 100 i0 (.agg #[U 0,.string ⟨#[]⟩,.bool false]) 3 32 underlying88 hi hz0 hz1 hz2 rfl (by decide) (.slice a s.ws.length cap) s.ws.length (qcf s.ws) (by simp[Act.eval]) (Y.alloc _) (AD D.heap.size 0) 1 1 (wrC ⟨f,i,false⟩) (by simp[Act.eval]) rfl (World.news_of_block (heap_alloc_new D.drew (.cells #[U f,.string i,.bool false] 100))) (by intro u K;simp[wrC]at K;rcases K with rfl|rfl|rfl<;>rfl) (by decide) (by have:=S.out;simp only[maxLen];omega) (by have:=S.out;omega) (by simp) _ rfl ?_
                   intro g cap9 wE Z L aa ltE;have M:=((m.box).boxed (.cells #[U f,.string i,.bool false] 100)).grown L (λe=>m.nb e.symm);have e9:=M.c 9
                   have h9:=M.free 9 (by simp[jr]))
    all_goals
     have N:=qnz HS.out (boxed ((qa hbwA ((jcc _ D).drew))) (.cells #[U f,.string i,.bool false] 100)) Z L aa (by simp)
     go_wp2_with fail
     go_ret;refine⟨by rw[H.out.1];rfl,?_⟩;rw[H.out.2];exact N
  have hee:i.toList.isEmpty=true:=by simpa using hgg
  go_enter func33,ntmps33
  go_wp2_with fail
  refine IN.mono ?_;rintro e F ⟨rfl,P⟩;obtain⟨W,o,G⟩:=GO.out F P;have y0:=o.c 0;have V:=o.c 1;have y2:=o.c 2;have Q:=OW.out F W;cases hw:qay s.ws f with
  |some y=>
   rw[hw,show (some y).isSome=true from rfl,show wrV ⟨r,t,z⟩=.agg #[U r,.string t,.bool z]from rfl]at Q;have H:=hd1 (HF.out (λe=>by rw[hw]at e;cases e.1))
   go_wp2_with fail
   refine Q.mono ?_;rintro e w2 ⟨rfl,X⟩;have C:=boxed X (.cells #[U r,.string t,.bool z] 100);have p:=W.later C;have q:=o.later C;have I:=qa G C;obtain⟨l,J⟩:∃l,w2.alloc (.cells #[U r,.string t,.bool z] 100)=l:=⟨_,rfl⟩;rw[J]at p q I
   go_wp2_with (rw[J])
   have m:=p.later ((jcc _ l).drew);have Y:=m.row;have hbl:b<l.heap.size:=m.box.lt;have hxl:=q.lt;have z9:=p.box.c 9;have g9:=p.box.free 9 (by simp[jr]);have y0:=q.c 0;have V:=q.c 1;have y2:=q.c 2
   go_region_law (refine step_append_lies _ rfl (.tmp 46) (.tmp 48) 88 rfl 0 100 i0 (.agg #[U 0,.string ⟨#[]⟩,.bool false]) 3 32 underlying88 hi hz0 hz1 hz2 rfl (by decide) (.slice a s.ws.length cap) s.ws.length (qcf s.ws) (by simp[Act.eval]) (Y.alloc _) (AD l.heap.size 0) 1 1 (wrC ⟨f,i,true⟩) (by simp[Act.eval]) rfl (World.news_of_block (heap_alloc_new l.drew (.cells #[U f,.string i,.bool true] 100))) (by intro u K;simp[wrC]at K;rcases K with rfl|rfl|rfl<;>rfl) (by decide) (by have:=S.out;simp only[maxLen];omega) (by have:=S.out;omega) (by simp) _ rfl ?_
                  intro g cap9 wE Z L aa ltE;have M:=((m.box).boxed (.cells #[U f,.string i,.bool true] 100)).grown L (λe=>m.nb e.symm);have e9:=M.c 9
                  have h9:=M.free 9 (by simp[jr]))
   all_goals
        have N:=qnz HS.out (boxed ((qa I ((jcc _ l).drew))) (.cells #[U f,.string i,.bool true] 100)) Z L aa (by simp)
        go_wp2_with fail
        go_ret;refine⟨by rw[H.out.1];rfl,?_⟩;rw[H.out.2];exact N
  |none=>
   rw[hw,show (none:Option Wr).isSome=false from rfl,show wrV ⟨r,t,z⟩=.agg #[U r,.string t,.bool z]from rfl]at Q
   go_wp2_with fail
   refine Q.mono ?_;rintro e w2 ⟨rfl,X⟩;have C:=boxed X (.cells #[U r,.string t,.bool z] 100);have p:=W.later C;have q:=o.later C;have I:=qa G C;obtain⟨l,J⟩:∃l,w2.alloc (.cells #[U r,.string t,.bool z] 100)=l:=⟨_,rfl⟩;rw[J]at p q I;have AL:=ALL.out l p
   go_wp2_with (rw[J])
   refine AL.mono ?_;rintro e D ⟨v,rfl,ownv,ab⟩;obtain⟨va,vc,rfl,hWv⟩:=qbg ownv;have SA:=p.later ab;have R:=q.later ab;have hbwA:=qa I ab;by_cases n:(5:Int)<=((jh s.ws).length:Int)
   ·have N:=O.out D (HF2.out ⟨hw,by omega⟩) hbwA
    go_wp2_with fail
    go_ret;exact N
   have H:=hd1 (HF.out (λe=>by have:=e.2;omega))
   go_wp2_with fail
   have m:=SA.later ((jcc _ D).drew);have Y:=m.row;have hbl:b<D.heap.size:=m.box.lt;have hxl:=R.lt;have z9:=SA.box.c 9;have g9:=SA.box.free 9 (by simp[jr]);have y0:=R.c 0;have V:=R.c 1;have y2:=R.c 2
   go_region_law (refine step_append_lies _ rfl (.tmp 46) (.tmp 48) 88 rfl 0 100 i0 (.agg #[U 0,.string ⟨#[]⟩,.bool false]) 3 32 underlying88 hi hz0 hz1 hz2 rfl (by decide) (.slice a s.ws.length cap) s.ws.length (qcf s.ws) (by simp[Act.eval]) (Y.alloc _) (AD D.heap.size 0) 1 1 (wrC ⟨f,i,true⟩) (by simp[Act.eval]) rfl (World.news_of_block (heap_alloc_new D.drew (.cells #[U f,.string i,.bool true] 100))) (by intro u K;simp[wrC]at K;rcases K with rfl|rfl|rfl<;>rfl) (by decide) (by have:=S.out;simp only[maxLen];omega) (by have:=S.out;omega) (by simp) _ rfl ?_
                  intro g cap9 wE Z L aa ltE;have M:=((m.box).boxed (.cells #[U f,.string i,.bool true] 100)).grown L (λe=>m.nb e.symm);have e9:=M.c 9
                  have h9:=M.free 9 (by simp[jr]))
   all_goals
        have N:=qnz HS.out (boxed ((qa hbwA ((jcc _ D).drew))) (.cells #[U f,.string i,.bool true] 100)) Z L aa (by simp)
        go_wp2_with fail
        go_ret;refine⟨by rw[H.out.1];rfl,?_⟩;rw[H.out.2];exact N
 simp only[jct,Bool.not_eq_true']at hgg;obtain⟨rfl,hee⟩:=hgg
 have E:qaj s ⟨f,i,true⟩=1:=by unfold qaj;rw[if_neg n1,if_neg n2,if_neg n3,if_pos ⟨rfl,ja9 hee⟩]
 have O:Hid (∀j,Bw w j->(.returned (U 1):Ending)=.returned (U (qaj s ⟨f,i,true⟩))/\qep w b (.slice a s.ws.length cap) (qd2 s ⟨f,i,true⟩) j):=λj n=>(HNO.out _ 1 E (by decide) n).out;go_enter func33,ntmps33
 go_wp2_with fail
 refine IN.mono ?_;rintro e F ⟨rfl,P⟩;obtain⟨_,o,G⟩:=GO.out F P;have y0:=o.c 0;have V:=o.c 1;have y2:=o.c 2
 go_wp2_with fail
 go_ret;exact O.out _ G
end Go.Proofs.YtoanjdndmlffdaaGreatDoor
