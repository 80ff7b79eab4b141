import Derived.Test.YtoanjdndmlffdaaGreatDoorSiteJ
set_option maxHeartbeats 4000000
set_option maxRecDepth 100000
namespace Go.Proofs.YtoanjdndmlffdaaGreatDoor
open Go.RowKit
variable {w:World}
theorem q4t {a k:Nat} {S:qe} {lv wv sv:Value} (h:qd w a (vz S lv wv sv)) (c:k<4):w.cell? (AD a (10+k*4))=some (U (S.oth (k*4)))/\w.cell? (AD a (10+k*4+1))=some (U (S.oth (k*4+1)))/\w.cell? (AD a (10+k*4+2))=some (U (S.oth (k*4+2)))/\w.cell? (AD a (10+k*4+3))=some (U (S.oth (k*4+3))):=
 ⟨h.cell _ _ (by match k,c with|0,_=>rfl|1,_=>rfl|2,_=>rfl|3,_=>rfl),h.cell _ _ (by match k,c with|0,_=>rfl|1,_=>rfl|2,_=>rfl|3,_=>rfl),h.cell _ _ (by match k,c with|0,_=>rfl|1,_=>rfl|2,_=>rfl|3,_=>rfl),h.cell _ _ (by match k,c with|0,_=>rfl|1,_=>rfl|2,_=>rfl|3,_=>rfl)⟩
def jap (w:World) (b:Nat) (G:Nat->Prop) (W:WoS) (g:GrS) (e:Ending) (w':World):Prop:=e=.returned (.tuple #[])/\∃W',Hid (qeo W g W')/\qae w b G W' w'
variable {b:Nat} {G:Nat->Prop}
theorem qae.from {a w':World} {W':WoS} (c:Bw w a) (h:qae a b G W' w'):qae w b G W' w':=by
 obtain⟨d,e,f,g⟩:=h;have s:=c.size;exact⟨d,e,λk j=>(f k j).imp id (λq=>by omega),(qc.ofBelow c).trans g⟩
variable {W:WoS} {i:Nat}
theorem q29 (j f wall k l m o p:Int) (ws:List Wr) (a:Option Addr) (c:Nat) (w:World) (h:RW w b G W) (y:WfW W) (hi:i<W.n) (z:qr w a c ws) (X:0<f):
 Ca 37 #[PP b,.agg #[U i,U j,U f,U wall,U k,U l,U m,U o,U p,.slice a ws.length c,U 0,U 0,U 0,U 0,U 0]] w (jap w b G W ⟨i,.tx ⟨j,f,wall,k,l,m,o,p,ws⟩⟩):=by
 obtain⟨M,K,h,B⟩:=h;have C:=boxed (jcc _ w) (.cells #[U i,U j,U f,U wall,U k,U l,U m,U o,U p,.slice a ws.length c,U 0,U 0,U 0,U 0,U 0] 108);have r:=qd.new (w:=w) (T:=108) [U i,U j,U f,U wall,U k,U l,U m,U o,U p,.slice a ws.length c,U 0,U 0,U 0,U 0,U 0] rfl;change qd (w.nu #[U i,U j,U f,U wall,U k,U l,U m,U o,U p,.slice a ws.length c,U 0,U 0,U 0,U 0,U 0] 108) w.heap.size [U i,U j,U f,U wall,U k,U l,U m,U o,U p,.slice a ws.length c,U 0,U 0,U 0,U 0,U 0]at r;have D:=h.later C;obtain⟨g,cap,E,Y,Z,H⟩:=D.sitesAt hi;have L:=qb.cell E;have N:=qb.cell (H i hi);have O:=qb.cell (r.c 0)
 have q1:(i:Int)<(W.n:Int):=by omega
 have hne:=qb.one;have q:=hd5 h B y hi z;clear h B H hi D z E y;go_enter Tryz.func37,Tryz.ntmps37
 go_wp2_with fail
 refine wrl ?_
 repeat (go_big_quiet_step (first|rfl|fail))
 refine wpQuiet_nil ?_;rintro I ⟨⟨_,J⟩,rfl⟩;have d:=r.later J;have u:=qa C J;have x:=q.out.1.later u
 have P:Hid (Ca 84 #[PP (M.bp i),.agg (List.toArray (T9 j f wall k l m o p a ws.length c))] I λe w'=>∃v,e=.returned v/\∃S',zu (W.S i) ⟨j,f,wall,k,l,m,o,p,ws⟩ S'/\RPo I (M.bp i) (K i) (M.F i) S' w'):=
  (qvy ⟨⟨j,f,wall,k,l,m,o,p,ws⟩,a,c⟩ _ (x.site q.out.2.2.2.1) (q.out.2.2.1.inv i q.out.2.2.2.1) (jcn (q.out.2.2.1.wt i q.out.2.2.2.1) (by omega)) (q.out.2.2.2.2.later u)).mono λe w' ⟨Q,S',s,t⟩=>⟨_,Q,S',s,t⟩
 have R:=hd1 x;have g0_:=d.c 0;have g1_:=d.c 1;have g2_:=d.c 2;have g3_:=d.c 3;have g4_:=d.c 4;have g5_:=d.c 5;have g6_:=d.c 6;have g7_:=d.c 7;have g8_:=d.c 8;have g9_:=d.c 9;clear x r L N O d
 go_wp2_with fail
 refine P.out.mono ?_;rintro e w4 ⟨v4,rfl,S',s,t⟩;have PP:=hd1 (qae.from u (R.out.stepS q.out.2.1 q.out.2.2.2.1 t));have V:=hd1 s;clear s t
 go_wp2_with fail
 go_end0;exact⟨rfl,_,⟨S',V.out,rfl⟩,PP.out⟩
theorem qxd (d f p x:Int) (w:World) (h:RW w b G W) (hw:WfW W) {o:Nat} (hi:i<W.n) (ho:o<W.n):
 Ca 37 #[PP b,.agg #[U i,U 0,U 0,U 0,U 0,U 0,U 0,U 0,U 0,.slice none 0 0,U o,U d,U f,U p,U x]] w λe w'=>e=.returned (.tuple #[])/\qae w b G (qbc W i o d f p x) w':=by
 obtain⟨M,Gs,h,hG⟩:=h;have hb1:=boxed (jcc _ w) (.cells #[U i,U 0,U 0,U 0,U 0,U 0,U 0,U 0,U 0,.slice none 0 0,U o,U d,U f,U p,U x] 108);have RG:=qd.new (w:=w) (T:=108) [U i,U 0,U 0,U 0,U 0,U 0,U 0,U 0,U 0,.slice none 0 0,U o,U d,U f,U p,U x] rfl;change qd (w.nu #[U i,U 0,U 0,U 0,U 0,U 0,U 0,U 0,U 0,.slice none 0 0,U o,U d,U f,U p,U x] 108) w.heap.size [U i,U 0,U 0,U 0,U 0,U 0,U 0,U 0,U 0,.slice none 0 0,U o,U d,U f,U p,U x]at RG;have H1:=h.later hb1;obtain⟨g,cap,c0,hcap,hg,hc⟩:=H1.sitesAt hi;have k0:=qb.cell c0;have Y:=qb.cell (hc i hi);have Z:=qb.cell (RG.c 0);have hne:=qb.one
 have q1:(i:Int)<(W.n:Int):=by omega
 have n4:=hw.n4
 have q4:(o:Int)<4:=by omega
 have hk4:o<4:=by omega
 have hlt:=h.box.lt
 have XB:∃lv wv sv,qd w (M.bp i) (vz (W.S i) lv wv sv):=by
  obtain⟨lv,wv,sv,log,waits,hM,_⟩:=h.site hi;exact⟨lv,wv,sv,hM.box⟩
 obtain⟨lv,wv,sv,XB⟩:=XB;have xlt:=XB.lt;have HX:=hd1 XB;have B:=hd4 h hG hw hi;clear h hG hc hi H1 hw XB c0;go_enter Tryz.func37,Tryz.ntmps37
 go_wp2_with fail
 refine wrl ?_
 repeat (go_big_quiet_step (first|rfl|fail))
 refine wpQuiet_nil ?_;rintro w2 ⟨⟨_,hb2⟩,rfl⟩;have X:=RG.later hb2;have hbw:=qa hb1 hb2;have hbD:=hbw.drew;obtain⟨o0,o1,o2,o3⟩:=q4t (HX.out.later hbw) hk4;have xl2:=(HX.out.later hbw).lt;have gl2:=X.lt;have HR:=hd1 X;have g2_:=X.c 2;have g10_:=X.c 10;have g11_:=X.c 11;have g12_:=X.c 12;have g13_:=X.c 13;have g14_:=X.c 14;clear RG k0 Y Z X
 go_wp2_with fail
 go_region_law (refine je rfl 83 #[.agg #[U ((W.S i).oth (o*4)),U ((W.S i).oth (o*4+1)),U ((W.S i).oth (o*4+2)),U ((W.S i).oth (o*4+3))],.agg #[U d,U f,U p,U x]] (by go_simp) (qp0 _ _ _ _ d f p x _) ?_
                rintro e wa ⟨rfl,hba⟩;refine⟨_,rfl,?_⟩;have hbA:=qa hbD hba;have RGA:=HR.out.later (qa (jcc _ _).drew hba);have XA:=HX.out.later hbA;obtain⟨p0,p1,p2,p3⟩:=q4t XA hk4;have f0:=XA.free (10+o*4) (by simp[vz];omega);have f1:=XA.free (10+o*4+1) (by simp[vz];omega);have f2:=XA.free (10+o*4+2) (by simp[vz];omega);have f3:=XA.free (10+o*4+3) (by simp[vz];omega)
                have e10:=RGA.c 10)
 all_goals
  have HA:=B.out.1.later hbA;obtain⟨Gs2,K2,hsub,tt2⟩:=HA.stepSm (F':=M.F i) B.out.2.2.2 (λ_ _ e=>e) ((HA.site B.out.2.2.2).know hk4 d f p x);obtain⟨WB,hWB⟩:∃WB,(((wa.setCell (AD (M.bp i) (10+o*4)) (U (jd ((W.S i).oth (o*4)) d))).setCell (AD (M.bp i) (10+o*4+1)) (U (jd ((W.S i).oth (o*4+1)) f))).setCell (AD (M.bp i) (10+o*4+2)) (U (jd ((W.S i).oth (o*4+2)) p))).setCell (AD (M.bp i) (10+o*4+3)) (U (jd ((W.S i).oth (o*4+3)) x))=WB:=⟨_,rfl⟩;rw[hWB]at K2 tt2 ⊢;rw[qq0]at K2;have hS2:(setSite W i (vp (W.S i) o d f p x)).S i=vp (W.S i) o d f p x:=qt _ _ _;have RGB:=RGA.kept (tt2.block _ RGA.lt (λe=>by have:=B.out.1.ltG (by have:=B.out.2.2.2;omega) e;omega)) tt2.size;have MS:=qs9 d f p x WB (K2.site (i:=i) B.out.2.2.2) (by rw[hS2];exact(B.out.2.2.1.inv i B.out.2.2.2).knows _);rw[show qd6 ((setSite W i (vp (W.S i) o d f p x)).S i) d f p x=qd6 (W.S i) d f p x by rw[hS2];rfl]at MS;have HK:Hid (RWo WB b M (setSite W i (vp (W.S i) o d f p x)) Gs2/\(∀j k,Gs2 j k->Gs j k\/w.heap.size<=k)/\qc G w WB/\w.heap.size<=WB.heap.size):=⟨K2,λj k e=>(hsub j k e).elim .inl (λq=>.inr (by have:=hbA.size;omega)),(qc.ofBelow hbA).more tt2 (λk e=>.inl ((B.out.2.1 k).2 (.inr ⟨i,by have:=B.out.2.2.2;omega,e⟩))),by have:=hbA.size;have:=tt2.size;omega⟩;clear o0 o1 o2 o3 g2_ g10_ g11_ g12_ g13_ g14_ K2 hsub tt2 HA hba hbA RGA XA p0 p1 p2 p3 f0 f1 f2 f3 e10 hS2 hWB;have g11_:=RGB.c 11;have g12_:=RGB.c 12;have g13_:=RGB.c 13;have g14_:=RGB.c 14;have HB:=hd1 RGB;clear RGB
  go_wp2_with fail
  refine MS.mono ?_;rintro e P ⟨v,rfl,y,F',Y,Z,k3,kF,kR,k4⟩;obtain⟨ma,mc,hv,hMx⟩:=yx Z;subst hv;obtain⟨Gs3,K3,hsub3,tt3⟩:=HK.out.1.stepSm (F':=F') B.out.2.2.2 kF (RPo.same kR k4);rw[qs4]at K3
  have hkl:y.length<=200:=by
   have e1:=congrArg List.length Y;have e2:(qd6 (W.S i) d f p x).length<=(W.S i).log.length:=jdo _ _;have e3:=(B.out.2.2.1.inv i B.out.2.2.2).log;simp at e1;omega
  have hml:=hMx.len;have hmc:=hMx.cap;obtain⟨L,hM3,eb,ey⟩:∃L:RoM,L={M with F:=jj M.F i F'}/\(∀k,ql b L k↔ql b M k)/\L.yv=M.yv:=⟨_,rfl,λ_=>jdl,rfl⟩
  have hF3:∀m∈y,∀k,m.blk k->∃o,L.F i k=some o:=λm R k e=>by
   rw[hM3];show ∃o,jj M.F i F' i k=some o;rw[qt];exact(k3 m R).2 k e
  rw[<-hM3]at K3
  have N:=hd9 hMx Y (show (∀m∈y,qr P m.wa m.wc m.t.ws/\∀k,m.blk k->∃o,L.F i k=some o)from λm R=>⟨(k3 m R).1,hF3 m R⟩) (show (∀k off,ma=some (AD k off)->y≠[]->w.heap.size<=k)from λk off e hn=>by
   rcases Z.2 with ⟨q,h0⟩|⟨g,cap,cur,q,hb9,_⟩
   ·exact absurd (jc2 h0) hn
   injection q with q1 q2 q3;rw[e]at q1;injection q1 with q1;injection q1 with q1;have:=HK.out.2.2.2
   omega) K3 k4 (λj k e=>(hsub3 j k e).elim (HK.out.2.1 j k) (λq=>.inr (by have:=HK.out.2.2.2;omega))) eb (HB.out.later k4)
  clear MS g11_ g12_ g13_ g14_ Y Z k3 k4 kF kR K3 hMx hsub3 tt3 hF3 hM3 ey eb HB
  go_wp2_with fail
  go_loopw [44] (λiv wr=>∃(k:Nat) (z:Int),k<=y.length/\z=k/\iv=U z/\Hid (qc5 P b L Gs3 (zl o ((y.map (·.t)).take k) (setSite W i (vp (W.S i) o d f p x))) wr)) (λiv _=>y.length-(intOf iv).toNat)
  case atStart=>exact⟨0,0,by omega,rfl,rfl,qc5.none N.out.2.2.2.2.1 (jcc _ _)⟩
  obtain⟨k,z,hk,hz,rfl,HS⟩:=hrel;have HZ:=hd1 hz;by_cases hlt2:k<y.length
  ·have g1:z<(y.length:Int):=by omega
   have g2:z.toNat=k:=by omega
   have g3:0<=z:=by omega
   have g4:z<200:=by omega
   clear hz
   obtain⟨O,Q,haa,hcc⟩:∃b off,ma=some (AD b off)/\∀i m r u,y[i]?=some m->(txC m)[r]?=some u->P.cell? (AD b (off+(i*9+r)))=some u:=by
        rcases N.out.1.held with h0|h0
        ·rw[h0]at hlt2;simp at hlt2
        exact h0
   have hne:y≠[]:=λe=>by rw[e]at hlt2;simp at hlt2
   have hab:=N.out.2.2.2.1 O Q haa hne;subst haa;have ltb:=λq e=>B.out.1.ltF q ((N.out.2.2.2.2.2.2.2.1 q).1 e)
   have kp:∀q,w.heap.size<=q->q<P.heap.size->wr.heap[q]?=P.heap[q]?:=λq hq hq3=>by
        obtain⟨_,_,_,_,tt⟩:=HS.out;refine tt.block q hq3 (λe=>?_)
        have:ql b L q:=by
         rcases e with e|e
         ·rw[e];simp[ql,vx]
         unfold ql vx;rw[e];simp
        have:=ltb q this;omega
   have hs3:P.heap.size<=wr.heap.size:=by
        obtain⟨_,_,_,_,tt⟩:=HS.out;exact tt.size
   have RGr:=N.out.2.2.2.2.2.2.2.2.kept (kp _ (jcd _) N.out.2.2.2.2.2.2.2.2.lt) hs3;obtain⟨⟨⟨C,D,wall,E,H,I,J,K,ws⟩,a,c⟩,R⟩:∃m,y[k]?=some m:=⟨_,jcg hlt2⟩;have hab3:O<P.heap.size:=jcr _ _ (hcc k _ 0 _ R rfl)
   have V:∀r u,(txC ⟨⟨C,D,wall,E,H,I,J,K,ws⟩,a,c⟩)[r]?=some u->wr.cell? (AD O (Q+(k*9+r)))=some u:=λr u hu=>by rw[jch (w:=P) (kp O hab hab3)];exact hcc k _ r u R hu
   have x0:wr.cell? (AD O (Q+k*9))=some (U C):=V 0 _ rfl;have x1:wr.cell? (AD O (Q+k*9+1))=some (U D):=V 1 _ rfl;have x2:wr.cell? (AD O (Q+k*9+2))=some (U wall):=V 2 _ rfl;have x3:wr.cell? (AD O (Q+k*9+3))=some (U E):=V 3 _ rfl;have x4:wr.cell? (AD O (Q+k*9+4))=some (U H):=V 4 _ rfl;have x5:wr.cell? (AD O (Q+k*9+5))=some (U I):=V 5 _ rfl;have x6:wr.cell? (AD O (Q+k*9+6))=some (U J):=V 6 _ rfl;have x7:wr.cell? (AD O (Q+k*9+7))=some (U K):=V 7 _ rfl;have x8:wr.cell? (AD O (Q+k*9+8))=some (.slice a ws.length c):=V 8 _ rfl;have hmem:=jcq R
   have HT:Hid (zl o ((y.map (·.t)).take (k+1)) (setSite W i (vp (W.S i) o d f p x))=if C=(o:Int)then zl o ((y.map (·.t)).take k) (setSite W i (vp (W.S i) o d f p x))else zk (zl o ((y.map (·.t)).take k) (setSite W i (vp (W.S i) o d f p x))) ⟨o,.tx ⟨C,D,wall,E,H,I,J,K,ws⟩⟩):=by
        show _=_;rw[jdu,jcv,R];exact qjr o ⟨C,D,wall,E,H,I,J,K,ws⟩ _ _
   have bx:=boxed (jcc _ wr) (.cells (List.toArray (T9 C D wall E H I J K a ws.length c)) 102);have RX:=qd.new (w:=wr) (T:=102) (T9 C D wall E H I J K a ws.length c) rfl;change qd (wr.nu (List.toArray (T9 C D wall E H I J K a ws.length c)) 102) wr.heap.size (T9 C D wall E H I J K a ws.length c)at RX;have r10:=(RGr.later bx).c 10;obtain⟨t0,t1,t2,t3,t4,t5,t6,t7,t8⟩:=RX.c9;have lr:=RGr.lt;have HQ:Hid (qr P a c ws/\∀k,(⟨⟨C,D,wall,E,H,I,J,K,ws⟩,a,c⟩:TxM).blk k->∃o,L.F i k=some o):=N.out.2.2.1 _ hmem;clear hcc V kp ltb R hmem hab hab3 hne RGr;by_cases hs:C=(o:Int)
   ·subst hs;have HT2:=hd1 (HT.out.trans (if_pos rfl))
    go_wp2_with fail
    go_roundw
    case rel=>exact⟨k+1,z+1,by omega,by have:=HZ.out;omega,by go_num,by show qc5 _ _ _ _ _ _;rw[HT2.out];exact HS.out.next (λnv l hP=>qc5.none hP (boxed (jcc _ wr) _))⟩
    simp[intOf];have:=HZ.out;omega
   have HT2:=hd1 (HT.out.trans (if_neg hs));have sm:=qds o ((y.map (·.t)).take k) (setSite W i (vp (W.S i) o d f p x))
   have SX:Hid (Ca 82 #[PP b,.agg #[U o,U C,U D,U wall,U E,U H,U I,U J,U K,.slice a ws.length c,U 0,U 0,U 0,U 0,U 0]] (wr.nu (List.toArray (T9 C D wall E H I J K a ws.length c)) 102) λe w'=>e=.returned (.tuple #[])/\qc5 P b L Gs3 (zk (zl o ((y.map (·.t)).take k) (setSite W i (vp (W.S i) o d f p x))) ⟨o,.tx ⟨C,D,wall,E,H,I,J,K,ws⟩⟩) w'):=by
        obtain⟨yv',l',h1,h2,tt⟩:=HS.out.next (λnv l hP=>qc5.none hP bx)
        have ok:GrR.Ok (wr.nu (List.toArray (T9 C D wall E H I J K a ws.length c)) 102) (zl o ((y.map (·.t)).take k) (setSite W i (vp (W.S i) o d f p x))).n L.F ⟨⟨o,.tx ⟨C,D,wall,E,H,I,J,K,ws⟩⟩,a,c⟩:=by
         have hin:i<(zl o ((y.map (·.t)).take k) (setSite W i (vp (W.S i) o d f p x))).n:=by rw[sm.n];exact B.out.2.2.2
         refine⟨qr.kept (m:=⟨⟨C,D,wall,E,H,I,J,K,ws⟩,a,c⟩) HQ.out.1 (λq e=>?_),λq e=>?_,λ_ _ _ _ _ e=>by simp at e⟩
         ·obtain⟨ob,hob⟩:=HQ.out.2 q e;exact((h1.site hin).frozen hob).trans ((N.out.2.2.2.2.1.site (i:=i) B.out.2.2.2).frozen hob).symm
         obtain⟨ob,hob⟩:=HQ.out.2 q e;exact⟨i,ob,hin,hob⟩
        refine(qlu _ h1 ⟨⟨o,.tx ⟨C,D,wall,E,H,I,J,K,ws⟩⟩,a,c⟩ ok rfl).mono λe w' ⟨he,hS⟩=>⟨he,?_⟩;have s:=tt.size;obtain⟨yv2,l2,g1',g2',gt⟩:=hS;refine⟨yv2,l2,g1',λq e=>(g2' q e).elim (h2 q) (λr=>.inr (by omega)),tt.more gt (λq e=>?_)⟩;exact e.elim (λr=>.inl (.inl r)) (λr=>(h2 q r).imp .inr id)
   go_wp2_with fail
   refine SX.out.mono ?_;rintro e w5 ⟨rfl,hS⟩;have SN:=hd1 hS;clear SX hS sm x0 x1 x2 x3 x4 x5 x6 x7 x8 t0 t1 t2 t3 t4 t5 t6 t7 t8 RX
   go_wp2_with fail
   go_roundw
   case rel=>exact⟨k+1,z+1,by omega,by have:=HZ.out;omega,by go_num,by show qc5 _ _ _ _ _ _;rw[HT2.out];exact SN.out⟩
   simp[intOf];have:=HZ.out;omega
  have g1:¬z<(y.length:Int):=by omega
  have e:k=y.length:=by omega
  go_wp2_with fail
  go_end0;have S9:=HS.out;rw[e,show ((y.map (·.t)).take y.length)=qd6 (W.S i) d f p x by rw[<-N.out.2.1];exact List.take_of_length_le (by simp)]at S9;have sm:=qds o (qd6 (W.S i) d f p x) (setSite W i (vp (W.S i) o d f p x));have P1:qae P b (qg6 b L (W.n+W.c) Gs3) (qbc W i o d f p x) wr:=S9.post (W:=W) (λ_=>jdl) sm.n sm.c;obtain⟨G5,Y,Z,kt⟩:=P1;have hs:=HK.out.2.2.1.size;have hs2:=N.out.2.2.2.2.2.1.size
  have sub:∀q,qg6 b L (W.n+W.c) Gs3 q->G q\/w.heap.size<=q:=λq hq=>by
   rcases hq with r|⟨j,hj,r⟩
   ·exact .inl ((B.out.2.1 q).2 (.inl ((N.out.2.2.2.2.2.2.2.1 q).1 r)))
   exact(N.out.2.2.2.2.2.2.1 j q r).imp (λr2=>(B.out.2.1 q).2 (.inr ⟨j,hj,r2⟩)) id
  exact⟨rfl,G5,Y,λq hq=>(Z q hq).elim (sub q) (λr=>.inr (by omega)),(HK.out.2.2.1.trans (qc.ofBelow N.out.2.2.2.2.2.1)).more kt sub⟩
theorem qzo (x:GrR) (w:World) (h:RW w b G W) (d:WfW W) (f:x.g.tj<W.n) (k:qr w x.m.wa x.m.wc x.m.t.ws) (l:∀s a0 a1 a2 a3,x.g.body=.ask s a0 a1 a2 a3->x.wa=none/\x.wc=0) (j:q69 W.n x.g):
 Ca 37 #[PP b,.agg (qbj x).toArray] w (jap w b G W x.g):=by
 obtain⟨⟨y,p⟩,a,c⟩:=x;cases p with
 |tx t=>exact q29 t.site t.seq t.wall t.count t.d0 t.d1 t.d2 t.d3 t.ws a c w h d f k (by have:okT t=true:=j;have:=(qcg this).2.1;omega)
 |ask s v0 v1 v2 v3=>
  obtain⟨q,r⟩:0<=s/\s<(W.n:Int):=j;obtain⟨o,rfl⟩:∃o:Nat,s=o:=⟨s.toNat,by omega⟩;obtain⟨rfl,rfl⟩:a=none/\c=0:=l _ _ _ _ _ rfl;refine(qxd v0 v1 v2 v3 w h d f (o:=o) (by omega)).mono λe w' ⟨u,v⟩=>⟨u,_,?_,v⟩;show (if 0<=(o:Int)/\(o:Int)<(W.n:Int)then _ else _);rw[if_pos ⟨q,r⟩];rfl
end Go.Proofs.YtoanjdndmlffdaaGreatDoor
