import Derived.Test.YtoanjdndmlffdaaGreatDoorSiteC
set_option maxHeartbeats 16000000
set_option maxRecDepth 100000
namespace Go.Proofs.YtoanjdndmlffdaaGreatDoor
open Tryz Go.Value Go.IntKind Go.RowKit
variable {w:World} {b:Nat}
theorem qel {tmps:Array Value} {x0 x1 x2 x3 d e g i:Int} {ev:Value} {a:Option Addr} {n c:Nat} (h:qag w b [int i64 x0,int i64 x1,int i64 x2,int i64 x3,int i64 d,int i64 e,int i64 g,int i64 i,.slice a n c]) (j:tmps[6]?=some (.pointer (some ⟨b,0,none⟩))) (k:tmps[7]?=some ev):
 (results f150 tmps).run prog w=.ok (.tuple #[.agg #[int i64 x0,int i64 x1,int i64 x2,int i64 x3,int i64 d,int i64 e,int i64 g,int i64 i,.slice a n c],ev]) w:=by
 obtain⟨z0,l,z2,z3,z4,z5,m,o,p⟩:=h.c9;simp[results,results150,go_sem,j,k,z0,l,z2,z3,z4,z5,m,o,p]
variable {G:Nat->Prop}
theorem qi2.left {w':World} {a:qbn} (h:qi2 w b G a w'):qg0 (qr3 b a) w G w':=h
theorem qp9 {E:Nat} {O:Nat->Prop} {s:qbn} {S:qaf} (now:Int) (w:World) (h:PSe w b G s) (hS:PS w E O S) (hI:qcx S) (hd:∀k,G k->¬O k):
 Calls prog 150 #[.pointer (some ⟨b,0,none⟩),.pointer (some ⟨E,0,none⟩),int i64 now] w (q2z w b E G O S s now):=by
 have C:Hid (PSe w b G s/\PS w E O S/\qcx S/\(∀k,G k->¬O k)/\G b/\(∀k,G k->k<w.heap.size)/\∀k,O k->k<w.heap.size):=⟨h,hS,hI,hd,h.own,h.lt,hS.lt⟩;obtain⟨mv,h0,hm⟩:=h;have hb1:=boxed (Below.refl _ w) (.cells #[int i64 0,int i64 0,int i64 0,int i64 0,int i64 0,int i64 0,int i64 0,int i64 0,.slice none 0 0] 102);have RT:=qag.new (w:=w) (T:=102) [int i64 0,int i64 0,int i64 0,int i64 0,int i64 0,int i64 0,int i64 0,int i64 0,.slice none 0 0] rfl;change qag (w.alloc (.cells #[int i64 0,int i64 0,int i64 0,int i64 0,int i64 0,int i64 0,int i64 0,int i64 0,.slice none 0 0] 102)) w.heap.size [int i64 0,int i64 0,int i64 0,int i64 0,int i64 0,int i64 0,int i64 0,int i64 0,.slice none 0 0]at RT
 have HN2:Hid (∀(z:World),w.heap.size<z.heap.size->∀k,k=w.heap.size->w.heap.size<=k/\k<z.heap.size):=λz hA k e=>by omega
 have X:=h0.later hb1;have k4:=X.cell 4 _ rfl;rcases hm with ⟨ho,rfl,_,_⟩|⟨ho,bm,rfl,hne,hM,hG⟩
 ·rw[ho]at k4;have I:Hid (qgo S s now=6/\qe7 S s now=tx0.t/\qe9 S s now=S/\qbe S s now=s):=qpg ho;clear hS hI hd h0 X ho;go_enter func150,ntmps150
  go_wp2_with fail
  refine bodyPost_ret (qel RT rfl rfl) rfl ⟨tx0,by rw[I.out.1];rfl,I.out.2.1.symm,⟨qo7 _,qw0 (Z:=NoY) ?_ qhi⟩⟩;rw[I.out.2.2.1,I.out.2.2.2];exact qqt (p:=qr3 b s) (q:=qi8 E S) C.out.1 C.out.2.1 C.out.2.2.2.1 hb1 _ (λ_ L=>L)
 ·rw[ho]at k4;have HO:Hid (s.opn=true):=ho;have M1:=hM.later hb1;have LEN:=M1.len;have k9:=X.cell 9 _ rfl;by_cases hl:(qb6 s.ws).length=0
  ·have I:Hid (qgo S s now=0/\qe7 S s now=tx0.t/\qe9 S s now=S/\qbe S s now=qhe s):=qo4 HO.out hl;rw[hl]at LEN;have EN:=qrv (w.alloc (.cells #[int i64 0,int i64 0,int i64 0,int i64 0,int i64 0,int i64 0,int i64 0,int i64 0,.slice none 0 0] 102)) (C.out.1.later hb1);clear hS hI hd h0 X ho M1 hM hl;go_enter func150,ntmps150
   go_wp2_with fail
   refine EN.mono ?_;rintro e wD ⟨rfl,hpo⟩;have HPO:Hid (qi2 (w.alloc (.cells #[int i64 0,int i64 0,int i64 0,int i64 0,int i64 0,int i64 0,int i64 0,int i64 0,.slice none 0 0] 102)) b G (qhe s) wD):=hpo;obtain⟨G',_,_,tD⟩:=hpo;have RTD:=RT.kept (tD.block _ RT.lt (λe=>by have:=C.out.2.2.2.2.2.1 _ e;omega)) tD.size;clear tD EN k4 k9 LEN;obtain⟨r0,r1,r2,r3,r4,r5,r6,r7,r8⟩:=RTD.c9;obtain⟨p0,p1,p2,p3,p4,p5,p6,p7,p8⟩:=RTD.f9;have RZ:=qb3 RTD rfl 0 0 0 0 0 0 0 0 (.slice none 0 0);have FIN:=qk7 (p:=qr3 b (qhe s)) (q:=qi8 E S) (Y:=NoY) (N:=λk=>k=w.heap.size) C.out.2.2.2.2.2.1 C.out.2.2.2.2.2.2 C.out.2.2.2.1 hb1 (HN2.out _ (by simp)) (PPo.same (C.out.2.1.later hb1) (Below.refl _ _)) (λk L=>L.elim) (qae.ofBelow (Below.refl _ _)) HPO.out.left (qcu (b:=w.heap.size) (F:=λk=>k=w.heap.size) (qae.ofBelow (Below.refl _ wD)) rfl 0 0 0 0 0 0 0 0 (.slice none 0 0));clear RTD RT HPO
   go_wp2_with fail
   refine bodyPost_ret (qel RZ rfl rfl) rfl ⟨tx0,by rw[I.out.1];rfl,I.out.2.1.symm,⟨qo7 _,qw0 (Z:=NoY) ?_ qhi⟩⟩;rw[I.out.2.2.1,I.out.2.2.2];exact FIN.1
  ·have HY:Hid (qgo S s now=qnc S now s.s0 s.s1 s.s2 s.s3 (qb6 s.ws)/\qe7 S s now=qo6 S now s.s0 s.s1 s.s2 s.s3 (qb6 s.ws)/\qe9 S s now=qmt S now s.s0 s.s1 s.s2 s.s3 (qb6 s.ws)):=qlm HO.out hl;have HLN:Hid ((qb6 s.ws).length≠0):=hl
   have l0:¬(((qb6 s.ws).length:Int)=0):=by omega
   have l1:((((qb6 s.ws).length:Int))==0)=false:=by simpa using l0
   obtain⟨⟨a,i,l,o,r,u,x,y,j⟩,hct⟩:∃t,qo6 S now s.s0 s.s1 s.s2 s.s3 (qb6 s.ws)=t:=⟨_,rfl⟩;obtain⟨ce,hce⟩:∃ce,qnc S now s.s0 s.s1 s.s2 s.s3 (qb6 s.ws)=ce:=⟨_,rfl⟩;have HB0:Hid (qag w b (qcf s (.map (some bm)))/\qli w bm s.ws):=⟨h0,hM⟩
   have HW1:Hid ((w.alloc (.cells #[int i64 0,int i64 0,int i64 0,int i64 0,int i64 0,int i64 0,int i64 0,int i64 0,.slice none 0 0] 102)).heap.size=w.heap.size+1):=by show _=_;simp
   have hbR:=(Below.refl (w.alloc (.cells #[int i64 0,int i64 0,int i64 0,int i64 0,int i64 0,int i64 0,int i64 0,int i64 0,.slice none 0 0] 102)).heap.size (w.alloc (.cells #[int i64 0,int i64 0,int i64 0,int i64 0,int i64 0,int i64 0,int i64 0,int i64 0,.slice none 0 0] 102))).drew;have hbS:=boxed hbR (.cells #[int i64 0,int i64 0,int i64 0,int i64 0,int i64 0,int i64 0,int i64 0,int i64 0,.slice none 0 0] 102);have RXS:=qag.new (w:=(w.alloc (.cells #[int i64 0,int i64 0,int i64 0,int i64 0,int i64 0,int i64 0,int i64 0,int i64 0,.slice none 0 0] 102)).drew) (T:=102) (n:=w.heap.size+1) [int i64 0,int i64 0,int i64 0,int i64 0,int i64 0,int i64 0,int i64 0,int i64 0,.slice none 0 0] (by show (w.alloc (.cells #[int i64 0,int i64 0,int i64 0,int i64 0,int i64 0,int i64 0,int i64 0,int i64 0,.slice none 0 0] 102)).heap.size=_;simp);change qag ((w.alloc (.cells #[int i64 0,int i64 0,int i64 0,int i64 0,int i64 0,int i64 0,int i64 0,int i64 0,.slice none 0 0] 102)).drew.alloc (.cells #[int i64 0,int i64 0,int i64 0,int i64 0,int i64 0,int i64 0,int i64 0,int i64 0,.slice none 0 0] 102)) (w.heap.size+1) [int i64 0,int i64 0,int i64 0,int i64 0,int i64 0,int i64 0,int i64 0,int i64 0,.slice none 0 0]at RXS;have RTR:=RT.drew;have RTS:=RTR.boxed (.cells #[int i64 0,int i64 0,int i64 0,int i64 0,int i64 0,int i64 0,int i64 0,int i64 0,.slice none 0 0] 102)
   have RI:Hid (∀wx,Below (w.alloc (.cells #[int i64 0,int i64 0,int i64 0,int i64 0,int i64 0,int i64 0,int i64 0,int i64 0,.slice none 0 0] 102)).heap.size (w.alloc (.cells #[int i64 0,int i64 0,int i64 0,int i64 0,int i64 0,int i64 0,int i64 0,int i64 0,.slice none 0 0] 102)) wx->Calls prog 207 #[.pointer (some ⟨b,0,none⟩)] wx λe w'=>∃J K,e=.returned (.slice J (qb6 s.ws).length K)/\w'.ownsRow wx.heap.size 100 3 (.slice J (qb6 s.ws).length K) (qb6 s.ws).length (qhp (qb6 s.ws))/\Below wx.heap.size wx w'/\Below w.heap.size w w'/\qag w' b (qcf s (.map (some bm)))/\w.heap.size+1<=wx.heap.size):=λwx hx=>by
     have hbx:=qab hb1 hx;refine(q0p wx (HB0.out.1.later hbx) (HB0.out.2.later hbx)).mono ?_;rintro e w' ⟨v,rfl,ownv,hbv⟩;obtain⟨J,K,rfl,_⟩:=qdn ownv;have:=hx.size;have e1:=HW1.out;exact⟨J,K,rfl,ownv,hbv,qab hbx hbv,HB0.out.1.later (qab hbx hbv),by omega⟩
   have CM:Hid (∀(Bs:Nat) (z:World) (J:Option Addr) (K:Nat),Below w.heap.size w z->w.heap.size+1<=Bs->z.ownsRow Bs 100 3 (.slice J (qb6 s.ws).length K) (qb6 s.ws).length (qhp (qb6 s.ws))->Calls prog 206 #[.pointer (some ⟨E,0,none⟩),int i64 now,.agg #[int i64 s.s0,int i64 s.s1,int i64 s.s2,int i64 s.s3],.slice J (qb6 s.ws).length K] z λe B=>∃(c:Option Addr) (d:Nat),e=.returned (.tuple #[.agg #[int i64 a,int i64 i,int i64 l,int i64 o,int i64 r,int i64 u,int i64 x,int i64 y,.slice c j.length d],qbq ce])/\Hid (qaz B c d j/\qg0 (qiy E (qmt S now s.s0 s.s1 s.s2 s.s3 (qb6 s.ws)) (⟨⟨a,i,l,o,r,u,x,y,j⟩,c,d⟩:TxM).blk) z O B/\∀k,(⟨⟨a,i,l,o,r,u,x,y,j⟩,c,d⟩:TxM).blk k->z.heap.size<=k)/\(∀k,w.heap.size<=k->k<z.heap.size->B.heap[k]?=z.heap[k]?)/\z.heap.size<=B.heap.size):=λBs z J K hba hle own=>by
     obtain⟨a2,c2,e2,hWv⟩:=qdn own;injection e2 with e2 _ e3;subst e2 e3;refine(qus now s.s0 s.s1 s.s2 s.s3 z (C.out.2.1.later hba) C.out.2.2.1 hWv (λk off hne e hg=>?_)).mono ?_
     ·obtain⟨g,cc,e1,e2,e3⟩:=own.form (List.length_pos_iff.2 hne);injection e1 with e1;rw[e1]at e;injection e with e;injection e with e;have:=C.out.2.2.2.2.2.2 k hg;omega
     ·rintro e B ⟨⟨mt,c,d⟩,G',rfl,hmt,H⟩;rw[hct]at hmt;simp only at hmt;subst hmt;rw[hce];have tB:=H.out.2.2.2.1;exact⟨c,d,rfl,⟨H.out.1,⟨G',⟨H.out.2.1,λk L=>(H.out.2.2.2.2 k L).2⟩,H.out.2.2.1,tB⟩,λk L=>(H.out.2.2.2.2 k L).1⟩,λk h1 h2=>tB.block k h2 (λe=>by have:=C.out.2.2.2.2.2.2 _ e;omega),tB.size⟩
   have k5:=X.cell 5 _ rfl;have k6:=X.cell 6 _ rfl;have k7:=X.cell 7 _ rfl;have k8:=X.cell 8 _ rfl;have HBL:Hid (b<w.heap.size):=h0.lt
   have hbl1:b<w.heap.size+1:=by have:=HBL.out;omega
   clear hS hI hd h0 ho M1 hM hl;go_enter func150,ntmps150
   go_wp2_with fail
   go_region_law (first
     |(refine qav rfl 207 #[.pointer (some ⟨b,0,none⟩)] (by go_simp) (RI.out _ hbR) ?_
       rintro e wa ⟨J,K,rfl,ownv,hbv,hba,P,hle⟩;refine⟨_,rfl,?_⟩;have RTa:=RTR.later hbv;have hla:b<wa.heap.size:=P.lt;have z5:=P.cell 5 _ rfl;have z6:=P.cell 6 _ rfl;have z7:=P.cell 7 _ rfl
       have z8:=P.cell 8 _ rfl)
     |(refine qav rfl 207 #[.pointer (some ⟨b,0,none⟩)] (by go_simp) (RI.out _ hbS) ?_
       rintro e wa ⟨J,K,rfl,ownv,hbv,hba,P,hle⟩;refine⟨_,rfl,?_⟩;have RTa:=RTS.later hbv;have RXa:=RXS.later hbv;have hla:b<wa.heap.size:=P.lt;have z5:=P.cell 5 _ rfl;have z6:=P.cell 6 _ rfl;have z7:=P.cell 7 _ rfl
       have z8:=P.cell 8 _ rfl)
     |(refine qav rfl 206 #[.pointer (some ⟨E,0,none⟩),int i64 now,.agg #[int i64 s.s0,int i64 s.s1,int i64 s.s2,int i64 s.s3],.slice J (qb6 s.ws).length K] (by go_simp) (CM.out _ (wa.alloc (.cells #[int i64 0,int i64 0,int i64 0,int i64 0,int i64 0,int i64 0,int i64 0,int i64 0,.slice none 0 0] 102)) J K (boxed hba _) hle (ownv.alloc _)) ?_
       rintro e B ⟨c,d,rfl,H,hkB,hsB⟩;refine⟨_,rfl,?_⟩;have hla2:=RTa.lt;have RTB:=(RTa.boxed (.cells #[int i64 0,int i64 0,int i64 0,int i64 0,int i64 0,int i64 0,int i64 0,int i64 0,.slice none 0 0] 102)).kept (hkB _ (Nat.le_refl _) (by simp;omega)) hsB;have Q:=(qag.new (w:=wa) (T:=102) [int i64 0,int i64 0,int i64 0,int i64 0,int i64 0,int i64 0,int i64 0,int i64 0,.slice none 0 0] rfl).kept (hkB _ (by omega) (by simp)) hsB;obtain⟨x0,x1,x2,x3,x4,x5,x6,x7,x8⟩:=Q.c9;have q0:=Q.free 0 (by simp);have q1:=Q.free 1 (by simp);have q2:=Q.free 2 (by simp);have q3:=Q.free 3 (by simp);have q4:=Q.free 4 (by simp);have q5:=Q.free 5 (by simp);have q6:=Q.free 6 (by simp);have q7:=Q.free 7 (by simp)
       have q8:=Q.free 8 (by simp))
     |(refine qav rfl 206 #[.pointer (some ⟨E,0,none⟩),int i64 now,.agg #[int i64 s.s0,int i64 s.s1,int i64 s.s2,int i64 s.s3],.slice J (qb6 s.ws).length K] (by go_simp) (CM.out _ wa J K hba hle ownv) ?_
       rintro e B ⟨c,d,rfl,H,hkB,hsB⟩;refine⟨_,rfl,?_⟩;have RTB:=RTa.kept (hkB _ (Nat.le_refl _) RTa.lt) hsB;have R:=RXa.kept (hkB _ (by omega) RXa.lt) hsB;obtain⟨x0,x1,x2,x3,x4,x5,x6,x7,x8⟩:=R.c9;have q0:=R.free 0 (by simp);have q1:=R.free 1 (by simp);have q2:=R.free 2 (by simp);have q3:=R.free 3 (by simp);have q4:=R.free 4 (by simp);have q5:=R.free 5 (by simp);have q6:=R.free 6 (by simp);have q7:=R.free 7 (by simp)
       have q8:=R.free 8 (by simp))
     |(refine qav rfl 206 #[.pointer (some ⟨E,0,none⟩),int i64 now,.agg #[int i64 s.s0,int i64 s.s1,int i64 s.s2,int i64 s.s3],.slice J (qb6 s.ws).length K] (by go_simp) (CM.out _ wa J K hba hle ownv) ?_
       rintro e B ⟨c,d,rfl,H,hkB,hsB⟩;refine⟨_,rfl,?_⟩
       have RTB:=RTa.kept (hkB _ (Nat.le_refl _) RTa.lt) hsB))
   all_goals
     have hlT:=RTB.lt;have hlTa:=RTa.lt
     first
       |(have V:=qb3 Q rfl a i l o r u x y (.slice c j.length d)
         have U:=qvq RTB (by omega:w.heap.size≠wa.heap.size) a i l o r u x y (.slice c j.length d)
         have bneX:b≠wa.heap.size:=by have:=HBL.out;omega
         have hxge:w.heap.size<=wa.heap.size:=by omega
         have PK:Hid (∃z N,Below w.heap.size w z/\(∀k,N k->w.heap.size<=k/\k<z.heap.size)/\N w.heap.size/\qg0 (qiy E (qmt S now s.s0 s.s1 s.s2 s.s3 (qb6 s.ws)) (⟨⟨a,i,l,o,r,u,x,y,j⟩,c,d⟩:TxM).blk) z O B/\qaz B c d j/\(∀k,(⟨⟨a,i,l,o,r,u,x,y,j⟩,c,d⟩:TxM).blk k->z.heap.size<=k)/\qae N B (qbu B wa.heap.size a i l o r u x y (.slice c j.length d))):=⟨wa.alloc (.cells #[int i64 0,int i64 0,int i64 0,int i64 0,int i64 0,int i64 0,int i64 0,int i64 0,.slice none 0 0] 102),λk=>k=w.heap.size\/k=wa.heap.size,boxed hba _,λk e=>by simp;omega,.inl rfl,H.out.2.1,H.out.1,H.out.2.2,qcu (qae.ofBelow (Below.refl _ B)) (.inr rfl) a i l o r u x y (.slice c j.length d)⟩;obtain⟨M,hWC⟩:∃M,qbu B wa.heap.size a i l o r u x y (.slice c j.length d)=M:=⟨_,rfl⟩;rw[hWC]at V U PK;simp only[qbu]at hWC
         clear Q RTB)
       |(have V:=qb3 R rfl a i l o r u x y (.slice c j.length d)
         have U:=qvq RTB (by omega:w.heap.size≠w.heap.size+1) a i l o r u x y (.slice c j.length d)
         have bneX:b≠w.heap.size+1:=by have:=HBL.out;omega
         have hxge:w.heap.size<=w.heap.size+1:=by omega
         have hlX:=RXa.lt;have PK:Hid (∃z N,Below w.heap.size w z/\(∀k,N k->w.heap.size<=k/\k<z.heap.size)/\N w.heap.size/\qg0 (qiy E (qmt S now s.s0 s.s1 s.s2 s.s3 (qb6 s.ws)) (⟨⟨a,i,l,o,r,u,x,y,j⟩,c,d⟩:TxM).blk) z O B/\qaz B c d j/\(∀k,(⟨⟨a,i,l,o,r,u,x,y,j⟩,c,d⟩:TxM).blk k->z.heap.size<=k)/\qae N B (qbu B (w.heap.size+1) a i l o r u x y (.slice c j.length d))):=⟨wa,λk=>k=w.heap.size\/k=w.heap.size+1,hba,λk e=>by omega,.inl rfl,H.out.2.1,H.out.1,H.out.2.2,qcu (qae.ofBelow (Below.refl _ B)) (.inr rfl) a i l o r u x y (.slice c j.length d)⟩;obtain⟨M,hWC⟩:∃M,qbu B (w.heap.size+1) a i l o r u x y (.slice c j.length d)=M:=⟨_,rfl⟩;rw[hWC]at V U PK;simp only[qbu]at hWC
         clear R RXa hlX RTB)
       |(have V:=qag.new (w:=B) (T:=102) [int i64 a,int i64 i,int i64 l,int i64 o,int i64 r,int i64 u,int i64 x,int i64 y,.slice c j.length d] rfl
         change qag (B.alloc (.cells #[int i64 a,int i64 i,int i64 l,int i64 o,int i64 r,int i64 u,int i64 x,int i64 y,.slice c j.length d] 102)) B.heap.size [int i64 a,int i64 i,int i64 l,int i64 o,int i64 r,int i64 u,int i64 x,int i64 y,.slice c j.length d]at V;have U:=RTB.boxed (.cells #[int i64 a,int i64 i,int i64 l,int i64 o,int i64 r,int i64 u,int i64 x,int i64 y,.slice c j.length d] 102)
         have bneX:b≠B.heap.size:=by have:=HBL.out;omega
         have hxge:w.heap.size<=B.heap.size:=by omega
         have PK:Hid (∃z N,Below w.heap.size w z/\(∀k,N k->w.heap.size<=k/\k<z.heap.size)/\N w.heap.size/\qg0 (qiy E (qmt S now s.s0 s.s1 s.s2 s.s3 (qb6 s.ws)) (⟨⟨a,i,l,o,r,u,x,y,j⟩,c,d⟩:TxM).blk) z O B/\qaz B c d j/\(∀k,(⟨⟨a,i,l,o,r,u,x,y,j⟩,c,d⟩:TxM).blk k->z.heap.size<=k)/\qae N B (B.alloc (.cells #[int i64 a,int i64 i,int i64 l,int i64 o,int i64 r,int i64 u,int i64 x,int i64 y,.slice c j.length d] 102))):=⟨wa,λk=>k=w.heap.size,hba,λk e=>by omega,rfl,H.out.2.1,H.out.1,H.out.2.2,qae.ofBelow (boxed (Below.refl _ B) _)⟩;obtain⟨M,hWC⟩:∃M,B.alloc (.cells #[int i64 a,int i64 i,int i64 l,int i64 o,int i64 r,int i64 u,int i64 x,int i64 y,.slice c j.length d] 102)=M:=⟨_,rfl⟩;rw[hWC]at V U PK
         clear RTB)
     (try clear x0 x1 x2 x3 x4 x5 x6 x7 x8 q0 q1 q2 q3 q4 q5 q6 q7 q8)
     clear k4 k5 k6 k7 k8 k9 z5 z6 z7 z8 LEN RI CM X RT RTR RTS RXS hbR hbS H ownv hbv P RTa hlT hlTa hkB hsB
     have PSC:PSe M b G s:=by
       obtain⟨z,N,hA,hN,hNw,hPB,hWB,hnb,TC⟩:=PK.out;have mid:=q4m (q:=qiy E (qmt S now s.s0 s.s1 s.s2 s.s3 (qb6 s.ws)) (⟨⟨a,i,l,o,r,u,x,y,j⟩,c,d⟩:TxM).blk) C.out.2.2.2.2.2.1 C.out.2.2.2.1 hA hN hPB TC;exact C.out.1.kept mid.1 mid.2
     by_cases hE:ce=0
     ·subst hE
      have I:Hid (qbe S s now=atLeast a i (qhe s)/\a=S.id):=by
        have:=qub (S:=S) (s:=s) (now:=now) HO.out HLN.out hce;rw[hct]at this;exact this
      have HCE:Hid (qgo S s now=0/\qe7 S s now=⟨a,i,l,o,r,u,x,y,j⟩):=⟨HY.out.1.trans hce,HY.out.2.1.trans hct⟩
      have i0:0<=a:=by rw[I.out.2];exact C.out.2.2.1.id0
      have i3:a<=3:=by rw[I.out.2];exact C.out.2.2.1.id3
      have i4:a<4:=by omega
      have EN:=qrv M PSC;rw[show qbq 0=.nilIface from rfl];clear hct hce
      go_wp2_with (rw[hWC])
      refine EN.mono ?_;rintro e wD ⟨rfl,hpo⟩;have HPO:Hid (qi2 M b G (qhe s) wD):=hpo;obtain⟨G',⟨mv',B',_⟩,_,tD⟩:=hpo;have RTD:=U.kept (tD.block _ U.lt (λe=>by have:=C.out.2.2.2.2.2.1 _ e;omega)) tD.size;have RXD:=V.kept (tD.block _ V.lt (λe=>by have:=C.out.2.2.2.2.2.1 _ e;omega)) tD.size;obtain⟨D,hD⟩:∃D,qaq a (qhe s).p0 (qhe s).p1 (qhe s).p2 (qhe s).p3=D:=⟨_,rfl⟩
      have HPA:Hid ((qcf (qhe s) mv')[a.toNat]?=some (int i64 D)):=by show _=_;rw[q6t i0 i3,hD]
      have HS2:Hid (qbe S s now=qth a.toNat (qb9 D i) (qhe s)):=by show _=_;rw[I.out.1,qm9 i0 i3,hD]
      clear hD tD EN U V hxge;have x0:=RXD.cell 0 _ rfl;have x1:=RXD.cell 1 _ rfl;have y0:=B'.cell _ _ HPA.out;have g0:=B'.free a.toNat (by simp[qcf];omega)
      have bne:b≠w.heap.size:=λe=>by have:=HBL.out;omega
      go_wp2_with fail
      go_region
      all_goals
        obtain⟨W,hmx⟩:∃W,(if D<i then i else D)=W:=⟨_,rfl⟩;rw[hmx];have HMX:Hid (qb9 D i=W):=hmx;have P4:=(qi2.past C.out.2.2.2.2.1 HPO.out (n:=a.toNat) (by omega) W).after ((Below.refl _ (wD.setCell ⟨b,a.toNat,none⟩ (int i64 W))).drew);have RT4:=(RTD.far ⟨b,a.toNat,none⟩ (int i64 W) bne).drew;have RX4:=(RXD.far ⟨b,a.toNat,none⟩ (int i64 W) bneX).drew;obtain⟨W4,hW4⟩:∃W4,(wD.setCell ⟨b,a.toNat,none⟩ (int i64 W)).drew=W4:=⟨_,rfl⟩;rw[hW4]at P4 RT4 RX4
        (try rw[hW4])
        clear x0 x1 y0 g0 B' RTD RXD hmx;obtain⟨x0,x1,x2,x3,x4,x5,x6,x7,x8⟩:=RX4.c9;obtain⟨r0,r1,r2,r3,r4,r5,r6,r7,r8⟩:=RT4.c9;obtain⟨p0,p1,p2,p3,p4,p5,p6,p7,p8⟩:=RT4.f9;have RZ:=qb3 RT4 rfl a i l o r u x y (.slice c j.length d)
        have FIN:qaz (qbu W4 w.heap.size a i l o r u x y (.slice c j.length d)) c d j/\qki (qr3 b (qth a.toNat W (qhe s))) (qiy E (qmt S now s.s0 s.s1 s.s2 s.s3 (qb6 s.ws)) (⟨⟨a,i,l,o,r,u,x,y,j⟩,c,d⟩:TxM).blk) w G O (⟨⟨a,i,l,o,r,u,x,y,j⟩,c,d⟩:TxM).blk (qbu W4 w.heap.size a i l o r u x y (.slice c j.length d)):=by
          obtain⟨z,N,hA,hN,hNw,hPB,hWB,hnb,TC⟩:=PK.out;obtain⟨r1,r2⟩:=qk7 (p:=qr3 b (qth a.toNat W (qhe s))) (q:=qiy E (qmt S now s.s0 s.s1 s.s2 s.s3 (qb6 s.ws)) (⟨⟨a,i,l,o,r,u,x,y,j⟩,c,d⟩:TxM).blk) (Y:=(⟨⟨a,i,l,o,r,u,x,y,j⟩,c,d⟩:TxM).blk) C.out.2.2.2.2.2.1 C.out.2.2.2.2.2.2 C.out.2.2.2.1 hA hN hPB (λk L=>⟨hnb k L,qaz.blk_lt (m:=(⟨⟨a,i,l,o,r,u,x,y,j⟩,c,d⟩:TxM)) hWB k L⟩) TC P4.left (qcu (b:=w.heap.size) (qae.ofBelow (Below.refl _ W4)) hNw a i l o r u x y (.slice c j.length d));exact⟨qaz.kept (m:=(⟨⟨a,i,l,o,r,u,x,y,j⟩,c,d⟩:TxM)) hWB (λk L=>r2 k L),r1⟩
        clear RT4 RX4
        go_wp2_with (rw[hW4])
        refine bodyPost_ret (qel RZ rfl rfl) rfl ⟨(⟨⟨a,i,l,o,r,u,x,y,j⟩,c,d⟩:TxM),by rw[HCE.out.1];rfl,HCE.out.2.symm,⟨FIN.1,?_⟩⟩;rw[HY.out.2.2,HS2.out,HMX.out];exact FIN.2
     ·have I:Hid (qbe S s now=s/\qmt S now s.s0 s.s1 s.s2 s.s3 (qb6 s.ws)=S/\qo6 S now s.s0 s.s1 s.s2 s.s3 (qb6 s.ws)=tx0.t):=qsb HO.out HLN.out (by rw[hce];exact hE);have HCE:Hid (qgo S s now=ce/\qe7 S s now=tx0.t/\qe9 S s now=S):=⟨HY.out.1.trans hce,HY.out.2.1.trans I.out.2.2,HY.out.2.2.trans I.out.2.1⟩;have RZ:=qb3 U rfl 0 0 0 0 0 0 0 0 (.slice none 0 0)
      have FIN:qki (qr3 b s) (qi8 E S) w G O NoY (qbu M w.heap.size 0 0 0 0 0 0 0 0 (.slice none 0 0)):=by
        obtain⟨z,N,hA,hN,hNw,hPB,hWB,hnb,TC⟩:=PK.out;rw[I.out.2.1]at hPB;exact jbe (qk7 (p:=qr3 b s) (q:=qiy E S (⟨⟨a,i,l,o,r,u,x,y,j⟩,c,d⟩:TxM).blk) (Y:=NoY) C.out.2.2.2.2.2.1 C.out.2.2.2.2.2.2 C.out.2.2.2.1 hA hN hPB (λk L=>L.elim) TC (qi2.same PSC (Below.refl _ _)).left (qcu (b:=w.heap.size) (qae.ofBelow (Below.refl _ M)) hNw 0 0 0 0 0 0 0 0 (.slice none 0 0))).1
      rw[show qbq ce=.iface 26 (int i64 ce) by unfold qbq;rw[if_neg hE]];clear hct hce;obtain⟨r0,r1,r2,r3,r4,r5,r6,r7,r8⟩:=U.c9;obtain⟨p0,p1,p2,p3,p4,p5,p6,p7,p8⟩:=U.f9;clear U V
      go_wp2_with (rw[hWC])
      refine bodyPost_ret (qel RZ rfl rfl) rfl ⟨tx0,by rw[HCE.out.1];unfold qbq;rw[if_neg hE];rfl,HCE.out.2.1.symm,⟨qo7 _,qw0 (Z:=NoY) ?_ qhi⟩⟩;rw[I.out.1,HCE.out.2.2];exact FIN
end Go.Proofs.YtoanjdndmlffdaaGreatDoor
