import Derived.Test.YtbfkeoagmajcpaaGreatDoorSiteG
set_option maxHeartbeats 16000000
set_option maxRecDepth 100000
set_option linter.defProp false
namespace Go.Proofs.YtbfkeoagmajcpaaGreatDoor
open _root_.Go.Proofs.Tryz Go.RowKit
variable {w:Wl} {b:Nat}
def qc4 {tmps:Av} {x y z A d e f g:Int} {B:Vl} {a:Oa} {n c:Nat} (h:qd w b (T9 x y z A d e f g a n c)) (i:tmps[6]?=some (PP b)) (j:tmps[7]?=some B):
 (results f124 tmps).run prog w=.ok (.tuple #[.agg (List.toArray (T9 x y z A d e f g a n c)),B]) w:=by
 obtain⟨k,l,m,o,p,q,r,s,t⟩:=h.c9;simp[results,results124,go_sem,i,j,k,l,m,o,p,q,r,s,t]
variable {G:Np}
def qc8.left {w':Wl} {a:qy} (h:qc8 w b G a w'):qbi (qix b a) w G w':=h
def qol {I:Nat} {Gx:Nat->Prop} {s:qy} {S:qe} (now:Int) (w:Wl) (h:PSe w b G s) (hS:PS w I Gx S) (hI:j3 S) (hd:∀k,G k->¬Gx k):
 Ca 124 #[PP b,PP I,U now] w (q33 w b I G Gx S s now):=by
 have E:=hd7 h hS hI hd h.own h.lt hS.lt;obtain⟨mv,h0,hm⟩:=h;have hb1:=boxed (jcc _ w) (.cells ZA 122);have RT:=qd.new (w:=w) (T:=122) ZL rfl;change qd (w.alloc (.cells ZA 122)) w.heap.size ZL at RT;have HN2:Hid (∀(B:Wl),w.heap.size<B.heap.size->∀k,k=w.heap.size->w.heap.size<=k/\k<B.heap.size):=λB hA k e=>oe
 have B1:=h0.later hb1;have k4:=B1.c 4;obtain⟨ho,rfl,_,_⟩|⟨ho,bm,rfl,hne,hM,hG⟩:=hm
 .rw[ho]at k4;have J:Hid (qeg S s now=6/\qce S s now=tx0.t/\qcc S s now=S/\j0 S s now=s):=qmm ho;clear hS hI hd h0 B1 ho;go_enter func124,ntmps124;go_wp2_with fail
  refine bodyPost_ret (qc4 RT rfl rfl) rfl ⟨tx0,by rw[J.out.1];rfl,J.out.2.1.symm,⟨qk4 _,qtr (Z:=NoY) ?_ qfb⟩⟩;rw[J.out.2.2.1,J.out.2.2.2];exact qod (p:=qix b s) (q:=qfp I S) E.out.1 E.out.2.1 E.out.2.2.2.1 hb1 _ (λ_ M=>M)
 rw[ho]at k4;have HO:=hd1 ho;have M1:=hM.later hb1;have LEN:=M1.len;have k9:=B1.c 9;by_cases hl:(jh s.ws).length=0
 .have J:Hid (qeg S s now=0/\qce S s now=tx0.t/\qcc S s now=S/\j0 S s now=qc3 s):=qml HO.out hl;rw[hl]at LEN;have EN:=qom (w.alloc (.cells ZA 122)) (E.out.1.later hb1);clear hS hI hd h0 B1 ho M1 hM hl;go_enter func124,ntmps124;go_wp2_with fail
  refine EN.mono ?_;rintro e wD ⟨rfl,hpo⟩;have HPO:=hd1 hpo;obtain⟨G',_,_,tD⟩:=hpo;have RTD:=RT.kept (tD.block _ RT.lt (λe=>by have:=E.out.2.2.2.2.2.1 _ e;omega)) tD.size;clear tD EN k4 k9 LEN;obtain⟨r0,r1,r2,r3,r4,r5,r6,r7,r8⟩:=RTD.c9;obtain⟨p0,p1,p2,p3,p4,p5,p6,p7,p8⟩:=RTD.f9;have RZ:=yz RTD rfl 0 0 0 0 0 0 0 0 (.slice none 0 0);have FIN:=qid (p:=qix b (qc3 s)) (q:=qfp I S) (Y:=NoY) (N:=λk=>k=w.heap.size) E.out.2.2.2.2.2.1 E.out.2.2.2.2.2.2 E.out.2.2.2.1 hb1 (HN2.out _ oi) (PPo.same (E.out.2.1.later hb1) (jcc _ _)) (λk M=>M.elim) (qc.ofBelow (jcc _ _)) HPO.out.left (qaz (b:=w.heap.size) (F:=λk=>k=w.heap.size) (qc.ofBelow (jcc _ wD)) rfl 0 0 0 0 0 0 0 0 (.slice none 0 0));clear RTD RT HPO;go_wp2_with fail
  refine bodyPost_ret (qc4 RZ rfl rfl) rfl ⟨tx0,by rw[J.out.1];rfl,J.out.2.1.symm,⟨qk4 _,qtr (Z:=NoY) ?_ qfb⟩⟩;rw[J.out.2.2.1,J.out.2.2.2];exact FIN.1
 have HY:Hid (qeg S s now=qfl S now s.s0 s.s1 s.s2 s.s3 (jh s.ws)/\qce S s now=qha S now s.s0 s.s1 s.s2 s.s3 (jh s.ws)/\qcc S s now=qf3 S now s.s0 s.s1 s.s2 s.s3 (jh s.ws)):=qjx HO.out hl;have HLN:Hid ((jh s.ws).length≠0):=hl;have l0:¬(((jh s.ws).length:Int)=0):=oe;have l1:((((jh s.ws).length:Int))==0)=false:=by simpa using l0
 obtain⟨⟨a,j,o,r,u,x,y,z,l⟩,hct⟩:∃t,qha S now s.s0 s.s1 s.s2 s.s3 (jh s.ws)=t:=⟨_,rfl⟩;obtain⟨ce,hce⟩:∃ce,qfl S now s.s0 s.s1 s.s2 s.s3 (jh s.ws)=ce:=⟨_,rfl⟩;have HB0:=hd2 h0 hM;have HW1:Hid ((w.alloc (.cells ZA 122)).heap.size=w.heap.size+1):=by show _=_;simp
 have hbR:=(jcc (w.alloc (.cells ZA 122)).heap.size (w.alloc (.cells ZA 122))).drew;have hbS:=boxed hbR (.cells ZA 122);have RXS:=qd.new (w:=(w.alloc (.cells ZA 122)).drew) (T:=122) (n:=w.heap.size+1) ZL (by show (w.alloc (.cells ZA 122)).heap.size=_;simp);change qd ((w.alloc (.cells ZA 122)).drew.alloc (.cells ZA 122)) (w.heap.size+1) ZL at RXS;have RTR:=RT.drew;have RTS:=RTR.boxed (.cells ZA 122);have RI:Hid (∀wx,Below (w.alloc (.cells ZA 122)).heap.size (w.alloc (.cells ZA 122)) wx->Ca 159 #[PP b] wx λe w'=>∃K L,e=.returned (.slice K (jh s.ws).length L)/\w'.ownsRow wx.heap.size 127 3 (.slice K (jh s.ws).length L) (jh s.ws).length (qcf (jh s.ws))/\Bw wx w'/\Bw w w'/\qd w' b (yj s (.map (some bm)))/\w.heap.size+1<=wx.heap.size):=λwx hx=>by
  have hbx:=qa hb1 hx;refine(qya wx (HB0.out.1.later hbx) (HB0.out.2.later hbx)).mono ?_;rintro e w' ⟨v,rfl,A,hbv⟩;obtain⟨K,L,rfl,_⟩:=qbg A;have:=hx.size;have e1:=HW1.out;exact⟨K,L,rfl,A,hbv,qa hbx hbv,HB0.out.1.later (qa hbx hbv),oe⟩
 have CM:Hid (∀(Bs:Nat) (B:Wl) (K:Oa) (L:Nat),Bw w B->w.heap.size+1<=Bs->B.ownsRow Bs 127 3 (.slice K (jh s.ws).length L) (jh s.ws).length (qcf (jh s.ws))->Ca 158 #[PP I,U now,.agg #[U s.s0,U s.s1,U s.s2,U s.s3],.slice K (jh s.ws).length L] B λe C=>∃(d:Oa) (i:Nat),e=.returned (.tuple #[.agg (List.toArray (T9 a j o r u x y z d l.length i)),jc ce])/\Hid (qr C d i l/\qbi (qeu I (qf3 S now s.s0 s.s1 s.s2 s.s3 (jh s.ws)) (⟨⟨a,j,o,r,u,x,y,z,l⟩,d,i⟩:TxM).blk) B Gx C/\∀k,(⟨⟨a,j,o,r,u,x,y,z,l⟩,d,i⟩:TxM).blk k->B.heap.size<=k)/\(∀k,w.heap.size<=k->k<B.heap.size->C.heap[k]?=B.heap[k]?)/\B.heap.size<=C.heap.size):=λBs B K L hba hle own=>by
  obtain⟨a2,c2,e2,hWv⟩:=qbg own;injection e2 with e2 _ e3;subst e2 e3;refine(qtk now s.s0 s.s1 s.s2 s.s3 B (E.out.2.1.later hba) E.out.2.2.1 hWv (λk off hne e hg=>?_)).mono ?_
  .obtain⟨g,cc,e1,e2,e3⟩:=own.form (List.length_pos_iff.2 hne);injection e1 with e1;rw[e1]at e;injection e with e;injection e with e;have:=E.out.2.2.2.2.2.2 k hg;omega
  rintro e C ⟨⟨mt,d,i⟩,G',rfl,hmt,H⟩;rw[hct]at hmt;simp only at hmt;subst hmt;rw[hce];have tB:=H.out.2.2.2.1;exact⟨d,i,rfl,⟨H.out.1,⟨G',⟨H.out.2.1,λk M=>(H.out.2.2.2.2 k M).2⟩,H.out.2.2.1,tB⟩,λk M=>(H.out.2.2.2.2 k M).1⟩,λk h1 h2=>tB.block k h2 (λe=>by have:=E.out.2.2.2.2.2.2 _ e;omega),tB.size⟩
 have k5:=B1.c 5;have k6:=B1.c 6;have k7:=B1.c 7;have k8:=B1.c 8;have HBL:=hd1 h0.lt;have hbl1:b<w.heap.size+1:=by have:=HBL.out;omega
 clear hS hI hd h0 ho M1 hM hl;go_enter func124,ntmps124;go_wp2_with fail
 go_region_law (first
  |(refine je rfl 159 #[PP b] (by go_simp) (RI.out _ hbR) ?_
    rintro e O ⟨K,L,rfl,A,hbv,hba,P,hle⟩;refine⟨_,rfl,?_⟩;have RTa:=RTR.later hbv;have hla:=P.lt;have z5:=P.c 5;have z6:=P.c 6;have z7:=P.c 7;have z8:=P.c 8)
  |(refine je rfl 159 #[PP b] (by go_simp) (RI.out _ hbS) ?_
    rintro e O ⟨K,L,rfl,A,hbv,hba,P,hle⟩;refine⟨_,rfl,?_⟩;have RTa:=RTS.later hbv;have RXa:=RXS.later hbv;have hla:=P.lt;have z5:=P.c 5;have z6:=P.c 6;have z7:=P.c 7;have z8:=P.c 8)
  |(refine je rfl 158 #[PP I,U now,.agg #[U s.s0,U s.s1,U s.s2,U s.s3],.slice K (jh s.ws).length L] (by go_simp) (CM.out _ (O.alloc (.cells ZA 122)) K L (boxed hba _) hle (A.alloc _)) ?_
    rintro e C ⟨d,i,rfl,H,hkB,hsB⟩;refine⟨_,rfl,?_⟩;have hla2:=RTa.lt;have RTB:=(RTa.boxed (.cells ZA 122)).kept (hkB _ (jcd _) ou) hsB;have Q:=(qd.new (w:=O) (T:=122) ZL rfl).kept (hkB _ oe oi) hsB;obtain⟨x0,x1,x2,x3,x4,x5,x6,x7,x8⟩:=Q.c9;have q0:=Q.f 0;have q1:=Q.f 1;have q2:=Q.f 2;have q3:=Q.f 3;have q4:=Q.f 4;have q5:=Q.f 5;have q6:=Q.f 6;have q7:=Q.f 7;have q8:=Q.f 8)
  |(refine je rfl 158 #[PP I,U now,.agg #[U s.s0,U s.s1,U s.s2,U s.s3],.slice K (jh s.ws).length L] (by go_simp) (CM.out _ O K L hba hle A) ?_
    rintro e C ⟨d,i,rfl,H,hkB,hsB⟩;refine⟨_,rfl,?_⟩;have RTB:=RTa.kept (hkB _ (jcd _) RTa.lt) hsB;have R:=RXa.kept (hkB _ oe RXa.lt) hsB;obtain⟨x0,x1,x2,x3,x4,x5,x6,x7,x8⟩:=R.c9;have q0:=R.f 0;have q1:=R.f 1;have q2:=R.f 2;have q3:=R.f 3;have q4:=R.f 4;have q5:=R.f 5;have q6:=R.f 6;have q7:=R.f 7;have q8:=R.f 8)
  |(refine je rfl 158 #[PP I,U now,.agg #[U s.s0,U s.s1,U s.s2,U s.s3],.slice K (jh s.ws).length L] (by go_simp) (CM.out _ O K L hba hle A) ?_
    rintro e C ⟨d,i,rfl,H,hkB,hsB⟩;refine⟨_,rfl,?_⟩;have RTB:=RTa.kept (hkB _ (jcd _) RTa.lt) hsB))
 all_goals
  have hlT:=RTB.lt;have hlTa:=RTa.lt;first
   |(have X:=yz Q rfl a j o r u x y z (.slice d l.length i)
     have V:=qtu RTB (by omega:w.heap.size≠O.heap.size) a j o r u x y z (.slice d l.length i);have bneX:b≠O.heap.size:=by have:=HBL.out;omega
     have hxge:w.heap.size<=O.heap.size:=oe;have PK:Hid (∃B N,Bw w B/\(∀k,N k->w.heap.size<=k/\k<B.heap.size)/\N w.heap.size/\qbi (qeu I (qf3 S now s.s0 s.s1 s.s2 s.s3 (jh s.ws)) (⟨⟨a,j,o,r,u,x,y,z,l⟩,d,i⟩:TxM).blk) B Gx C/\qr C d i l/\(∀k,(⟨⟨a,j,o,r,u,x,y,z,l⟩,d,i⟩:TxM).blk k->B.heap.size<=k)/\qc N C (js C O.heap.size a j o r u x y z (.slice d l.length i))):=⟨O.alloc (.cells ZA 122),λk=>k=w.heap.size\/k=O.heap.size,boxed hba _,λk e=>ou,.inl rfl,H.out.2.1,H.out.1,H.out.2.2,qaz (qc.ofBelow (jcc _ C)) (.inr rfl) a j o r u x y z (.slice d l.length i)⟩;obtain⟨W,hWC⟩:∃W,js C O.heap.size a j o r u x y z (.slice d l.length i)=W:=⟨_,rfl⟩;rw[hWC]at X V PK;simp only[js]at hWC;clear Q RTB)
   |(have X:=yz R rfl a j o r u x y z (.slice d l.length i)
     have V:=qtu RTB (by omega:w.heap.size≠w.heap.size+1) a j o r u x y z (.slice d l.length i);have bneX:b≠w.heap.size+1:=by have:=HBL.out;omega
     have hxge:w.heap.size<=w.heap.size+1:=oe;have hlX:=RXa.lt;have PK:Hid (∃B N,Bw w B/\(∀k,N k->w.heap.size<=k/\k<B.heap.size)/\N w.heap.size/\qbi (qeu I (qf3 S now s.s0 s.s1 s.s2 s.s3 (jh s.ws)) (⟨⟨a,j,o,r,u,x,y,z,l⟩,d,i⟩:TxM).blk) B Gx C/\qr C d i l/\(∀k,(⟨⟨a,j,o,r,u,x,y,z,l⟩,d,i⟩:TxM).blk k->B.heap.size<=k)/\qc N C (js C (w.heap.size+1) a j o r u x y z (.slice d l.length i))):=⟨O,λk=>k=w.heap.size\/k=w.heap.size+1,hba,λk e=>oe,.inl rfl,H.out.2.1,H.out.1,H.out.2.2,qaz (qc.ofBelow (jcc _ C)) (.inr rfl) a j o r u x y z (.slice d l.length i)⟩;obtain⟨W,hWC⟩:∃W,js C (w.heap.size+1) a j o r u x y z (.slice d l.length i)=W:=⟨_,rfl⟩;rw[hWC]at X V PK;simp only[js]at hWC;clear R RXa hlX RTB)
   |(have X:=qd.new (w:=C) (T:=122) (T9 a j o r u x y z d l.length i) rfl
     change qd (C.alloc (.cells (List.toArray (T9 a j o r u x y z d l.length i)) 122)) C.heap.size (T9 a j o r u x y z d l.length i)at X;have V:=RTB.boxed (.cells (List.toArray (T9 a j o r u x y z d l.length i)) 122);have bneX:b≠C.heap.size:=by have:=HBL.out;omega
     have hxge:w.heap.size<=C.heap.size:=oe;have PK:Hid (∃B N,Bw w B/\(∀k,N k->w.heap.size<=k/\k<B.heap.size)/\N w.heap.size/\qbi (qeu I (qf3 S now s.s0 s.s1 s.s2 s.s3 (jh s.ws)) (⟨⟨a,j,o,r,u,x,y,z,l⟩,d,i⟩:TxM).blk) B Gx C/\qr C d i l/\(∀k,(⟨⟨a,j,o,r,u,x,y,z,l⟩,d,i⟩:TxM).blk k->B.heap.size<=k)/\qc N C (C.alloc (.cells (List.toArray (T9 a j o r u x y z d l.length i)) 122))):=⟨O,λk=>k=w.heap.size,hba,λk e=>oe,rfl,H.out.2.1,H.out.1,H.out.2.2,qc.ofBelow (boxed (jcc _ C) _)⟩;obtain⟨W,hWC⟩:∃W,C.alloc (.cells (List.toArray (T9 a j o r u x y z d l.length i)) 122)=W:=⟨_,rfl⟩;rw[hWC]at X V PK;clear RTB)
  (try clear x0 x1 x2 x3 x4 x5 x6 x7 x8 q0 q1 q2 q3 q4 q5 q6 q7 q8)
  clear k4 k5 k6 k7 k8 k9 z5 z6 z7 z8 LEN RI CM B1 RT RTR RTS RXS hbR hbS H A hbv P RTa hlT hlTa hkB hsB;have PSC:PSe W b G s:=by
   obtain⟨B,N,hA,hN,hNw,hPB,hWB,hnb,TC⟩:=PK.out;have mid:=qz8 (q:=qeu I (qf3 S now s.s0 s.s1 s.s2 s.s3 (jh s.ws)) (⟨⟨a,j,o,r,u,x,y,z,l⟩,d,i⟩:TxM).blk) E.out.2.2.2.2.2.1 E.out.2.2.2.1 hA hN hPB TC;exact E.out.1.kept mid.1 mid.2
  by_cases hE:ce=0
  .subst hE
   have J:Hid (j0 S s now=atLeast a j (qc3 s)/\a=S.id):=by
        have:=qrv (S:=S) (s:=s) (now:=now) HO.out HLN.out hce;rw[hct]at this;exact this
   have HCE:=hd2 (HY.out.1.trans hce) (HY.out.2.1.trans hct);have i0:0<=a:=by rw[J.out.2];exact E.out.2.2.1.id0
   have i3:a<=3:=by rw[J.out.2];exact E.out.2.2.1.id3
   have i4:a<4:=oe;have EN:=qom W PSC;rw[show jc 0=.nilIface from rfl];clear hct hce;go_wp2_with (rw[hWC])
   refine EN.mono ?_;rintro e wD ⟨rfl,hpo⟩;have HPO:=hd1 hpo;obtain⟨G',⟨mv',B',_⟩,_,tD⟩:=hpo;have RTD:=V.kept (tD.block _ V.lt (λe=>by have:=E.out.2.2.2.2.2.1 _ e;omega)) tD.size;have RXD:=X.kept (tD.block _ X.lt (λe=>by have:=E.out.2.2.2.2.2.1 _ e;omega)) tD.size;obtain⟨D,hD⟩:∃D,qp a (qc3 s).p0 (qc3 s).p1 (qc3 s).p2 (qc3 s).p3=D:=⟨_,rfl⟩;have HPA:Hid ((yj (qc3 s) mv')[a.toNat]?=some (U D)):=by show _=_;rw[q5u i0 i3,hD]
   have HS2:Hid (j0 S s now=qnk a.toNat (jd D j) (qc3 s)):=by show _=_;rw[J.out.1,qlh i0 i3,hD]
   clear hD tD EN V X hxge;have x0:=RXD.c 0;have x1:=RXD.c 1;have y0:=B'.cell _ _ HPA.out;have g0:=B'.free a.toNat (by simp[yj];omega);have bne:b≠w.heap.size:=λe=>by have:=HBL.out;omega
   go_wp2_with fail
   go_region
   all_goals
        obtain⟨mx,hmx⟩:∃mx,(if D<j then j else D)=mx:=⟨_,rfl⟩;rw[hmx];have HMX:Hid (jd D j=mx):=hmx;have P4:=(qc8.past E.out.2.2.2.2.1 HPO.out (n:=a.toNat) oe mx).after ((jcc _ (wD.setCell (AD b a.toNat) (U mx))).drew);have RT4:=(RTD.far (AD b a.toNat) (U mx) bne).drew;have RX4:=(RXD.far (AD b a.toNat) (U mx) bneX).drew;obtain⟨W4,hW4⟩:∃W4,(wD.setCell (AD b a.toNat) (U mx)).drew=W4:=⟨_,rfl⟩;rw[hW4]at P4 RT4 RX4;(try rw[hW4])
        clear x0 x1 y0 g0 B' RTD RXD hmx;obtain⟨x0,x1,x2,x3,x4,x5,x6,x7,x8⟩:=RX4.c9;obtain⟨r0,r1,r2,r3,r4,r5,r6,r7,r8⟩:=RT4.c9;obtain⟨p0,p1,p2,p3,p4,p5,p6,p7,p8⟩:=RT4.f9;have RZ:=yz RT4 rfl a j o r u x y z (.slice d l.length i);have FIN:qr (js W4 w.heap.size a j o r u x y z (.slice d l.length i)) d i l/\qfx (qix b (qnk a.toNat mx (qc3 s))) (qeu I (qf3 S now s.s0 s.s1 s.s2 s.s3 (jh s.ws)) (⟨⟨a,j,o,r,u,x,y,z,l⟩,d,i⟩:TxM).blk) w G Gx (⟨⟨a,j,o,r,u,x,y,z,l⟩,d,i⟩:TxM).blk (js W4 w.heap.size a j o r u x y z (.slice d l.length i)):=by
         obtain⟨B,N,hA,hN,hNw,hPB,hWB,hnb,TC⟩:=PK.out;obtain⟨r1,r2⟩:=qid (p:=qix b (qnk a.toNat mx (qc3 s))) (q:=qeu I (qf3 S now s.s0 s.s1 s.s2 s.s3 (jh s.ws)) (⟨⟨a,j,o,r,u,x,y,z,l⟩,d,i⟩:TxM).blk) (Y:=(⟨⟨a,j,o,r,u,x,y,z,l⟩,d,i⟩:TxM).blk) E.out.2.2.2.2.2.1 E.out.2.2.2.2.2.2 E.out.2.2.2.1 hA hN hPB (λk M=>⟨hnb k M,qr.blk_lt (m:=(⟨⟨a,j,o,r,u,x,y,z,l⟩,d,i⟩:TxM)) hWB k M⟩) TC P4.left (qaz (b:=w.heap.size) (qc.ofBelow (jcc _ W4)) hNw a j o r u x y z (.slice d l.length i));exact⟨qr.kept (m:=(⟨⟨a,j,o,r,u,x,y,z,l⟩,d,i⟩:TxM)) hWB (λk M=>r2 k M),r1⟩
        clear RT4 RX4;go_wp2_with (rw[hW4])
        refine bodyPost_ret (qc4 RZ rfl rfl) rfl ⟨(⟨⟨a,j,o,r,u,x,y,z,l⟩,d,i⟩:TxM),by rw[HCE.out.1];rfl,HCE.out.2.symm,⟨FIN.1,?_⟩⟩;rw[HY.out.2.2,HS2.out,HMX.out];exact FIN.2
  have J:=hd1 (qp7 HO.out HLN.out (by rw[hce];exact hE));have HCE:=hd3 (HY.out.1.trans hce) (HY.out.2.1.trans J.out.2.2) (HY.out.2.2.trans J.out.2.1);have RZ:=yz V rfl 0 0 0 0 0 0 0 0 (.slice none 0 0);have FIN:qfx (qix b s) (qfp I S) w G Gx NoY (js W w.heap.size 0 0 0 0 0 0 0 0 (.slice none 0 0)):=by
   obtain⟨B,N,hA,hN,hNw,hPB,hWB,hnb,TC⟩:=PK.out;rw[J.out.2.1]at hPB;exact q74 (qid (p:=qix b s) (q:=qeu I S (⟨⟨a,j,o,r,u,x,y,z,l⟩,d,i⟩:TxM).blk) (Y:=NoY) E.out.2.2.2.2.2.1 E.out.2.2.2.2.2.2 E.out.2.2.2.1 hA hN hPB (λk M=>M.elim) TC (qc8.same PSC (jcc _ _)).left (qaz (b:=w.heap.size) (qc.ofBelow (jcc _ W)) hNw 0 0 0 0 0 0 0 0 (.slice none 0 0))).1
  rw[show jc ce=.iface 30 (U ce) by unfold jc;rw[if_neg hE]];clear hct hce;obtain⟨r0,r1,r2,r3,r4,r5,r6,r7,r8⟩:=V.c9;obtain⟨p0,p1,p2,p3,p4,p5,p6,p7,p8⟩:=V.f9;clear V X;go_wp2_with (rw[hWC])
  refine bodyPost_ret (qc4 RZ rfl rfl) rfl ⟨tx0,by rw[HCE.out.1];unfold jc;rw[if_neg hE];rfl,HCE.out.2.1.symm,⟨qk4 _,qtr (Z:=NoY) ?_ qfb⟩⟩;rw[J.out.1,HCE.out.2.2];exact FIN
end Go.Proofs.YtbfkeoagmajcpaaGreatDoor
