import Derived.Test.YtemiamjnhoeniaaGreatDoorSiteI
set_option maxHeartbeats 4000000
set_option maxRecDepth 100000
namespace Go.Proofs.YtemiamjnhoeniaaGreatDoor
open Go.Value Go.IntKind Go.RowKit
variable {w:World}
theorem q29 {a k:Nat} {S:qaf} {lv wv sv:Value} (h:qag w a (qcf S lv wv sv)) (c:k<4):w.cell? ⟨a,10+k*4,none⟩=some (int i64 (S.oth (k*4)))/\w.cell? ⟨a,10+k*4+1,none⟩=some (int i64 (S.oth (k*4+1)))/\w.cell? ⟨a,10+k*4+2,none⟩=some (int i64 (S.oth (k*4+2)))/\w.cell? ⟨a,10+k*4+3,none⟩=some (int i64 (S.oth (k*4+3))):=
 ⟨h.cell _ _ (by match k,c with|0,_=>rfl|1,_=>rfl|2,_=>rfl|3,_=>rfl),h.cell _ _ (by match k,c with|0,_=>rfl|1,_=>rfl|2,_=>rfl|3,_=>rfl),h.cell _ _ (by match k,c with|0,_=>rfl|1,_=>rfl|2,_=>rfl|3,_=>rfl),h.cell _ _ (by match k,c with|0,_=>rfl|1,_=>rfl|2,_=>rfl|3,_=>rfl)⟩
def q5m (w:World) (b:Nat) (G:Nat->Prop) (W:WoS) (g:GrS) (e:Ending) (w':World):Prop:=e=.returned (.tuple #[])/\∃W',Hid (qg2 W g W')/\qgi w b G W' w'
variable {b:Nat} {G:Nat->Prop}
theorem qgi.from {a w':World} {c:WoS} (hb:Below w.heap.size w a) (h:qgi a b G c w'):qgi w b G c w':=by
 obtain⟨d,e,f,g⟩:=h;have s:=hb.size;exact⟨d,e,λk j=>(f k j).imp id (λq=>by omega),(qae.ofBelow hb).trans g⟩
variable {W:WoS} {i:Nat}
theorem qzt (site seq wall count d0 d1 d2 d3:Int) (ws:List Wr) (a:Option Addr) (c:Nat) (w:World) (h:RW w b G W) (u:WfW W) (l:i<W.n) (x:qat w a c ws) (Q:0<seq):
 Calls Tryz.prog 45 #[.pointer (some ⟨b,0,none⟩),.agg #[int i64 i,int i64 site,int i64 seq,int i64 wall,int i64 count,int i64 d0,int i64 d1,int i64 d2,int i64 d3,.slice a ws.length c,int i64 0,int i64 0,int i64 0,int i64 0,int i64 0]] w (q5m w b G W ⟨i,.tx ⟨site,seq,wall,count,d0,d1,d2,d3,ws⟩⟩):=by
 obtain⟨M,q,h,y⟩:=h;have z:=boxed (Below.refl _ w) (.cells #[int i64 i,int i64 site,int i64 seq,int i64 wall,int i64 count,int i64 d0,int i64 d1,int i64 d2,int i64 d3,.slice a ws.length c,int i64 0,int i64 0,int i64 0,int i64 0,int i64 0] 122);have m:=qag.new (w:=w) (T:=122) [int i64 i,int i64 site,int i64 seq,int i64 wall,int i64 count,int i64 d0,int i64 d1,int i64 d2,int i64 d3,.slice a ws.length c,int i64 0,int i64 0,int i64 0,int i64 0,int i64 0] rfl;change qag (w.alloc (.cells #[int i64 i,int i64 site,int i64 seq,int i64 wall,int i64 count,int i64 d0,int i64 d1,int i64 d2,int i64 d3,.slice a ws.length c,int i64 0,int i64 0,int i64 0,int i64 0,int i64 0] 122)) w.heap.size [int i64 i,int i64 site,int i64 seq,int i64 wall,int i64 count,int i64 d0,int i64 d1,int i64 d2,int i64 d3,.slice a ws.length c,int i64 0,int i64 0,int i64 0,int i64 0,int i64 0]at m;have B:=h.later z;obtain⟨g,cap,c0,R,U,C⟩:=B.sitesAt l;have H:=Later.cell c0;have I:=Later.cell (C i l);have J:=Later.cell (m.cell 0 _ rfl)
 have V:(i:Int)<(W.n:Int):=by omega
 have X:=Later.one;have j:Hid (RWo w b M W q/\(∀k,G k↔qli b M (W.n+W.c) q k)/\WfW W/\i<W.n/\qat w a c ws):=⟨h,y,u,l,x⟩;clear h y C l B x c0 u;go_enter Tryz.func45,Tryz.ntmps45
 go_wp2_with fail
 refine qaa (by kernel_rfl) (by kernel_rfl) ?_
 repeat (go_big_quiet_step (first|rfl|fail))
 refine wpQuiet_nil ?_;rintro D ⟨⟨_,E⟩,rfl⟩;have d:=m.later E;have r:=qac z E;have s:=j.out.1.later r
 have K:Hid (Calls Tryz.prog 84 #[.pointer (some ⟨M.bp i,0,none⟩),.agg #[int i64 site,int i64 seq,int i64 wall,int i64 count,int i64 d0,int i64 d1,int i64 d2,int i64 d3,.slice a ws.length c]] D λe w'=>∃v,e=.returned v/\∃S',qbu (W.S i) ⟨site,seq,wall,count,d0,d1,d2,d3,ws⟩ S'/\RPo D (M.bp i) (q i) (M.F i) S' w'):=
  (qru ⟨⟨site,seq,wall,count,d0,d1,d2,d3,ws⟩,a,c⟩ _ (s.site j.out.2.2.2.1) (j.out.2.2.1.inv i j.out.2.2.2.1) (Nat.le_trans (j.out.2.2.1.wt i j.out.2.2.2.1) (by omega)) (j.out.2.2.2.2.later r)).mono λe w' ⟨L,S',o,p⟩=>⟨_,L,S',o,p⟩
 have N:Hid _:=s;have Y:=d.cell 0 _ rfl;have Z:=d.cell 1 _ rfl;have aa:=d.cell 2 _ rfl;have ab:=d.cell 3 _ rfl;have ac:=d.cell 4 _ rfl;have ad:=d.cell 5 _ rfl;have ae:=d.cell 6 _ rfl;have af:=d.cell 7 _ rfl;have ag:=d.cell 8 _ rfl;have ah:=d.cell 9 _ rfl;clear s m H I J d
 go_wp2_with fail
 refine K.out.mono ?_;rintro e w4 ⟨v4,rfl,S',o,p⟩;have O:Hid _:=qgi.from r (N.out.stepS j.out.2.1 j.out.2.2.2.1 p);have P:Hid _:=o;clear o p
 go_wp2_with fail
 go_end0;exact⟨rfl,_,⟨S',P.out,rfl⟩,O.out⟩
theorem qu7 (v0 v1 v2 v3:Int) (w:World) (h:RW w b G W) (hw:WfW W) {o:Nat} (X:i<W.n) (ho:o<W.n):
 Calls Tryz.prog 45 #[.pointer (some ⟨b,0,none⟩),.agg #[int i64 i,int i64 0,int i64 0,int i64 0,int i64 0,int i64 0,int i64 0,int i64 0,int i64 0,.slice none 0 0,int i64 o,int i64 v0,int i64 v1,int i64 v2,int i64 v3]] w λe w'=>e=.returned (.tuple #[])/\qgi w b G (qdb W i o v0 v1 v2 v3) w':=by
 obtain⟨M,Gs,h,hG⟩:=h;have hb1:=boxed (Below.refl _ w) (.cells #[int i64 i,int i64 0,int i64 0,int i64 0,int i64 0,int i64 0,int i64 0,int i64 0,int i64 0,.slice none 0 0,int i64 o,int i64 v0,int i64 v1,int i64 v2,int i64 v3] 122);have RG:=qag.new (w:=w) (T:=122) [int i64 i,int i64 0,int i64 0,int i64 0,int i64 0,int i64 0,int i64 0,int i64 0,int i64 0,.slice none 0 0,int i64 o,int i64 v0,int i64 v1,int i64 v2,int i64 v3] rfl;change qag (w.alloc (.cells #[int i64 i,int i64 0,int i64 0,int i64 0,int i64 0,int i64 0,int i64 0,int i64 0,int i64 0,.slice none 0 0,int i64 o,int i64 v0,int i64 v1,int i64 v2,int i64 v3] 122)) w.heap.size [int i64 i,int i64 0,int i64 0,int i64 0,int i64 0,int i64 0,int i64 0,int i64 0,int i64 0,.slice none 0 0,int i64 o,int i64 v0,int i64 v1,int i64 v2,int i64 v3]at RG;have H1:=h.later hb1;obtain⟨g,cap,c0,hcap,hg,hc⟩:=H1.sitesAt X;have k0:=Later.cell c0;have J:=Later.cell (hc i X);have K:=Later.cell (RG.cell 0 _ rfl);have hne:=Later.one
 have L:(i:Int)<(W.n:Int):=by omega
 have n4:=hw.n4
 have q4:(o:Int)<4:=by omega
 have hk4:o<4:=by omega
 have hlt:=h.box.lt
 have Y:∃lv wv sv,qag w (M.bp i) (qcf (W.S i) lv wv sv):=by
  obtain⟨lv,wv,sv,log,waits,hM,_⟩:=h.site X;exact⟨lv,wv,sv,hM.box⟩
 obtain⟨lv,wv,sv,Y⟩:=Y;have xlt:=Y.lt;have HX:Hid _:=Y;have d:Hid (RWo w b M W Gs/\(∀k,G k↔qli b M (W.n+W.c) Gs k)/\WfW W/\i<W.n):=⟨h,hG,hw,X⟩;clear h hG hc X H1 hw Y c0;go_enter Tryz.func45,Tryz.ntmps45
 go_wp2_with fail
 refine qaa (by kernel_rfl) (by kernel_rfl) ?_
 repeat (go_big_quiet_step (first|rfl|fail))
 refine wpQuiet_nil ?_;rintro w2 ⟨⟨_,hb2⟩,rfl⟩;have H:=RG.later hb2;have hbw:=qac hb1 hb2;have hbD:=hbw.drew;obtain⟨o0,o1,o2,o3⟩:=q29 (HX.out.later hbw) hk4;have xl2:=(HX.out.later hbw).lt;have gl2:=H.lt;have HR:Hid _:=H;have g2_:=H.cell 2 _ rfl;have g10_:=H.cell 10 _ rfl;have g11_:=H.cell 11 _ rfl;have g12_:=H.cell 12 _ rfl;have g13_:=H.cell 13 _ rfl;have g14_:=H.cell 14 _ rfl;clear RG k0 J K H
 go_wp2_with fail
 go_region_law (refine qas rfl 80 #[.agg #[int i64 ((W.S i).oth (o*4)),int i64 ((W.S i).oth (o*4+1)),int i64 ((W.S i).oth (o*4+2)),int i64 ((W.S i).oth (o*4+3))],.agg #[int i64 v0,int i64 v1,int i64 v2,int i64 v3]] (by go_simp) (qnr _ _ _ _ v0 v1 v2 v3 _) ?_
                rintro e wa ⟨rfl,hba⟩;refine⟨_,rfl,?_⟩;have N:=qac hbD hba;have RGA:=HR.out.later (qac (Below.refl _ _).drew hba);have O:=HX.out.later N;obtain⟨p0,p1,p2,p3⟩:=q29 O hk4;have f0:=O.free (10+o*4) (by simp[qcf];omega);have f1:=O.free (10+o*4+1) (by simp[qcf];omega);have f2:=O.free (10+o*4+2) (by simp[qcf];omega);have f3:=O.free (10+o*4+3) (by simp[qcf];omega)
                have e10:=RGA.cell 10 _ rfl)
 all_goals
  have HA:=d.out.1.later N;obtain⟨Gs2,Z,hsub,P⟩:=HA.stepSm (F':=M.F i) d.out.2.2.2 (λ_ _ e=>e) ((HA.site d.out.2.2.2).know hk4 v0 v1 v2 v3);obtain⟨I,hWB⟩:∃I,(((wa.setCell ⟨M.bp i,10+o*4,none⟩ (int i64 (qb1 ((W.S i).oth (o*4)) v0))).setCell ⟨M.bp i,10+o*4+1,none⟩ (int i64 (qb1 ((W.S i).oth (o*4+1)) v1))).setCell ⟨M.bp i,10+o*4+2,none⟩ (int i64 (qb1 ((W.S i).oth (o*4+2)) v2))).setCell ⟨M.bp i,10+o*4+3,none⟩ (int i64 (qb1 ((W.S i).oth (o*4+3)) v3))=I:=⟨_,rfl⟩;rw[hWB]at Z P ⊢;rw[qpz]at Z;have hS2:(setSite W i (qbi (W.S i) o v0 v1 v2 v3)).S i=qbi (W.S i) o v0 v1 v2 v3:=qal _ _ _;have Q:qag I w.heap.size [int i64 i,int i64 0,int i64 0,int i64 0,int i64 0,int i64 0,int i64 0,int i64 0,int i64 0,.slice none 0 0,int i64 o,int i64 v0,int i64 v1,int i64 v2,int i64 v3]:=RGA.kept (P.block _ RGA.lt (λe=>by have:=d.out.1.ltG (by have:=d.out.2.2.2;omega) e;omega)) P.size;have MS:=qq8 v0 v1 v2 v3 I (Z.site (i:=i) d.out.2.2.2) (by rw[hS2];exact(d.out.2.2.1.inv i d.out.2.2.2).knows _);rw[show qf0 ((setSite W i (qbi (W.S i) o v0 v1 v2 v3)).S i) v0 v1 v2 v3=qf0 (W.S i) v0 v1 v2 v3 by rw[hS2];rfl]at MS;have R:Hid (RWo I b M (setSite W i (qbi (W.S i) o v0 v1 v2 v3)) Gs2/\(∀j k,Gs2 j k->Gs j k\/w.heap.size<=k)/\qae G w I/\w.heap.size<=I.heap.size):=⟨Z,λj k e=>(hsub j k e).elim .inl (λq=>.inr (by have:=N.size;omega)),(qae.ofBelow N).more P (λk e=>.inl ((d.out.2.1 k).2 (.inr ⟨i,by have:=d.out.2.2.2;omega,e⟩))),by have:=N.size;have:=P.size;omega⟩;clear o0 o1 o2 o3 g2_ g10_ g11_ g12_ g13_ g14_ Z hsub P HA hba N RGA O p0 p1 p2 p3 f0 f1 f2 f3 e10 hS2 hWB;have g11_:=Q.cell 11 _ rfl;have g12_:=Q.cell 12 _ rfl;have g13_:=Q.cell 13 _ rfl;have g14_:=Q.cell 14 _ rfl;have HB:Hid _:=Q;clear Q
  go_wp2_with fail
  refine MS.mono ?_;rintro e x ⟨v,rfl,kept,F',J,K,k3,kF,kR,k4⟩;obtain⟨ma,mc,hv,hMx⟩:=qa6 K;subst hv;obtain⟨U,K3,hsub3,tt3⟩:=R.out.1.stepSm (F':=F') d.out.2.2.2 kF (RPo.same kR k4);rw[qqz]at K3
  have hkl:kept.length<=200:=by
   have e1:=congrArg List.length J;have e2:(qf0 (W.S i) v0 v1 v2 v3).length<=(W.S i).log.length:=List.length_filter_le _ _;have e3:=(d.out.2.2.1.inv i d.out.2.2.2).log;simp at e1;omega
  have hml:=hMx.len;have hmc:=hMx.cap;obtain⟨p,hM3,eb,ey⟩:∃p:RoM,p={M with F:=qb2 M.F i F'}/\(∀k,qav b p k↔qav b M k)/\p.yv=M.yv:=⟨_,rfl,λ_=>Iff.rfl,rfl⟩
  have hF3:∀m∈kept,∀k,m.blk k->∃o,p.F i k=some o:=λm D k e=>by
   rw[hM3];show ∃o,qb2 M.F i F' i k=some o;rw[qal];exact(k3 m D).2 k e
  rw[<-hM3]at K3
  have y:Hid (qec x ma mc kept/\kept.map (·.t)=qf0 (W.S i) v0 v1 v2 v3/\(∀m∈kept,qat x m.wa m.wc m.t.ws/\∀k,m.blk k->∃o,p.F i k=some o)/\(∀k aa,ma=some ⟨k,aa,none⟩->kept≠[]->w.heap.size<=k)/\RWo x b p (setSite W i (qbi (W.S i) o v0 v1 v2 v3)) U/\Below I.heap.size I x/\(∀j k,U j k->Gs j k\/w.heap.size<=k)/\(∀k,qav b p k↔qav b M k)/\qag x w.heap.size [int i64 i,int i64 0,int i64 0,int i64 0,int i64 0,int i64 0,int i64 0,int i64 0,int i64 0,.slice none 0 0,int i64 o,int i64 v0,int i64 v1,int i64 v2,int i64 v3]):=⟨hMx,J,λm D=>⟨(k3 m D).1,hF3 m D⟩,λk aa e hn=>by
   rcases K.2 with ⟨q,h0⟩|⟨g,cap,cur,q,hb9,_⟩
   ·exact absurd (List.eq_nil_of_length_eq_zero h0) hn
   ·injection q with L q2 q3;rw[e]at L;injection L with L;injection L with L;have:=R.out.2.2.2
    omega,K3,k4,λj k e=>(hsub3 j k e).elim (R.out.2.1 j k) (λq=>.inr (by have:=R.out.2.2.2;omega)),eb,HB.out.later k4⟩
  clear MS g11_ g12_ g13_ g14_ J K k3 k4 kF kR K3 hMx hsub3 tt3 hF3 hM3 ey eb HB
  go_wp2_with fail
  go_loopw [44] (λiv wr=>∃(k:Nat) (z:Int),k<=kept.length/\z=k/\iv=int i64 z/\Hid (qfb x b p U (qcb o ((kept.map (·.t)).take k) (setSite W i (qbi (W.S i) o v0 v1 v2 v3))) wr)) (λiv _=>kept.length-(intOf iv).toNat)
  case atStart=>exact⟨0,0,by omega,rfl,rfl,qfb.none y.out.2.2.2.2.1 (Below.refl _ _)⟩
  case round=>
   obtain⟨k,z,hk,hz,rfl,HS⟩:=hrel;have HZ:Hid _:=hz;by_cases hlt2:k<kept.length
   ·have g1:z<(kept.length:Int):=by omega
    have g2:z.toNat=k:=by omega
    have g3:0<=z:=by omega
    have g4:z<200:=by omega
    clear hz
    obtain⟨B,C,haa,hcc⟩:∃b aa,ma=some ⟨b,aa,none⟩/\∀i m r u,kept[i]?=some m->(txC m)[r]?=some u->x.cell? ⟨b,aa+(i*9+r),none⟩=some u:=by
     rcases y.out.1.held with h0|h0
     ·rw[h0]at hlt2;simp at hlt2
     ·exact h0
    have hne:kept≠[]:=λe=>by rw[e]at hlt2;simp at hlt2
    have hab:=y.out.2.2.2.1 B C haa hne;subst haa;have ltb:∀q,qav b p q->q<w.heap.size:=λq e=>d.out.1.ltF q ((y.out.2.2.2.2.2.2.2.1 q).1 e)
    have kp:∀q,w.heap.size<=q->q<x.heap.size->wr.heap[q]?=x.heap[q]?:=λq hq hq3=>by
     obtain⟨_,_,_,_,V⟩:=HS.out;refine V.block q hq3 (λe=>?_)
     have:qav b p q:=by
      rcases e with e|e
      ·rw[e];simp[qav,qd5]
      ·unfold qav qd5;rw[e];simp
     have:=ltb q this;omega
    have hs3:x.heap.size<=wr.heap.size:=by
     obtain⟨_,_,_,_,V⟩:=HS.out;exact V.size
    have RGr:qag wr w.heap.size [int i64 i,int i64 0,int i64 0,int i64 0,int i64 0,int i64 0,int i64 0,int i64 0,int i64 0,.slice none 0 0,int i64 o,int i64 v0,int i64 v1,int i64 v2,int i64 v3]:=y.out.2.2.2.2.2.2.2.2.kept (kp _ (Nat.le_refl _) y.out.2.2.2.2.2.2.2.2.lt) hs3;obtain⟨⟨⟨site,seq,wall,count,d0,d1,d2,d3,ws⟩,a,c⟩,D⟩:∃m,kept[k]?=some m:=⟨_,List.getElem?_eq_getElem hlt2⟩;have hab3:B<x.heap.size:=World.block_lt_of_cell? _ _ (hcc k _ 0 _ D rfl)
    have E:∀r u,(txC ⟨⟨site,seq,wall,count,d0,d1,d2,d3,ws⟩,a,c⟩)[r]?=some u->wr.cell? ⟨B,C+(k*9+r),none⟩=some u:=λr u hu=>by rw[World.cell?_of_block (w:=x) (kp B hab hab3)];exact hcc k _ r u D hu
    have x0:wr.cell? ⟨B,C+k*9,none⟩=some (int i64 site):=E 0 _ rfl;have x1:wr.cell? ⟨B,C+k*9+1,none⟩=some (int i64 seq):=E 1 _ rfl;have x2:wr.cell? ⟨B,C+k*9+2,none⟩=some (int i64 wall):=E 2 _ rfl;have x3:wr.cell? ⟨B,C+k*9+3,none⟩=some (int i64 count):=E 3 _ rfl;have x4:wr.cell? ⟨B,C+k*9+4,none⟩=some (int i64 d0):=E 4 _ rfl;have x5:wr.cell? ⟨B,C+k*9+5,none⟩=some (int i64 d1):=E 5 _ rfl;have x6:wr.cell? ⟨B,C+k*9+6,none⟩=some (int i64 d2):=E 6 _ rfl;have x7:wr.cell? ⟨B,C+k*9+7,none⟩=some (int i64 d3):=E 7 _ rfl;have x8:wr.cell? ⟨B,C+k*9+8,none⟩=some (.slice a ws.length c):=E 8 _ rfl;have hmem:=List.mem_of_getElem? D
    have HT:Hid (qcb o ((kept.map (·.t)).take (k+1)) (setSite W i (qbi (W.S i) o v0 v1 v2 v3))=if site=(o:Int)then qcb o ((kept.map (·.t)).take k) (setSite W i (qbi (W.S i) o v0 v1 v2 v3))else qcq (qcb o ((kept.map (·.t)).take k) (setSite W i (qbi (W.S i) o v0 v1 v2 v3))) ⟨o,.tx ⟨site,seq,wall,count,d0,d1,d2,d3,ws⟩⟩):=by
     show _=_;rw[List.take_add_one,List.getElem?_map,D];exact qjh o ⟨site,seq,wall,count,d0,d1,d2,d3,ws⟩ _ _
    have bx:=boxed (Below.refl _ wr) (.cells #[int i64 site,int i64 seq,int i64 wall,int i64 count,int i64 d0,int i64 d1,int i64 d2,int i64 d3,.slice a ws.length c] 80);have RX:=qag.new (w:=wr) (T:=80) [int i64 site,int i64 seq,int i64 wall,int i64 count,int i64 d0,int i64 d1,int i64 d2,int i64 d3,.slice a ws.length c] rfl;change qag (wr.alloc (.cells #[int i64 site,int i64 seq,int i64 wall,int i64 count,int i64 d0,int i64 d1,int i64 d2,int i64 d3,.slice a ws.length c] 80)) wr.heap.size [int i64 site,int i64 seq,int i64 wall,int i64 count,int i64 d0,int i64 d1,int i64 d2,int i64 d3,.slice a ws.length c]at RX;have r10:=(RGr.later bx).cell 10 _ rfl;obtain⟨t0,t1,t2,t3,t4,t5,t6,t7,t8⟩:=RX.c9;have lr:=RGr.lt;have HQ:Hid _:=y.out.2.2.1 _ hmem;clear hcc E kp ltb D hmem hab hab3 hne RGr;by_cases hs:site=(o:Int)
    ·subst hs;have HT2:Hid _:=HT.out.trans (if_pos rfl)
     go_wp2_with fail
     go_roundw
     case rel=>exact⟨k+1,z+1,by omega,by have:=HZ.out;omega,by go_num,by show qfb _ _ _ _ _ _;rw[HT2.out];exact HS.out.next (λnv l hP=>qfb.none hP (boxed (Below.refl _ wr) _))⟩
     case measure=>simp[intOf];have:=HZ.out;omega
    ·have HT2:Hid _:=HT.out.trans (if_neg hs);have sm:=qee o ((kept.map (·.t)).take k) (setSite W i (qbi (W.S i) o v0 v1 v2 v3))
     have SX:Hid (Calls Tryz.prog 77 #[.pointer (some ⟨b,0,none⟩),.agg #[int i64 o,int i64 site,int i64 seq,int i64 wall,int i64 count,int i64 d0,int i64 d1,int i64 d2,int i64 d3,.slice a ws.length c,int i64 0,int i64 0,int i64 0,int i64 0,int i64 0]] (wr.alloc (.cells #[int i64 site,int i64 seq,int i64 wall,int i64 count,int i64 d0,int i64 d1,int i64 d2,int i64 d3,.slice a ws.length c] 80)) λe w'=>e=.returned (.tuple #[])/\qfb x b p U (qcq (qcb o ((kept.map (·.t)).take k) (setSite W i (qbi (W.S i) o v0 v1 v2 v3))) ⟨o,.tx ⟨site,seq,wall,count,d0,d1,d2,d3,ws⟩⟩) w'):=by
      obtain⟨yv',l',h1,h2,V⟩:=HS.out.next (λnv l hP=>qfb.none hP bx)
      have ok:GrR.Ok (wr.alloc (.cells #[int i64 site,int i64 seq,int i64 wall,int i64 count,int i64 d0,int i64 d1,int i64 d2,int i64 d3,.slice a ws.length c] 80)) (qcb o ((kept.map (·.t)).take k) (setSite W i (qbi (W.S i) o v0 v1 v2 v3))).n p.F ⟨⟨o,.tx ⟨site,seq,wall,count,d0,d1,d2,d3,ws⟩⟩,a,c⟩:=by
       have hin:i<(qcb o ((kept.map (·.t)).take k) (setSite W i (qbi (W.S i) o v0 v1 v2 v3))).n:=by rw[sm.n];exact d.out.2.2.2
       refine⟨qat.kept (m:=⟨⟨site,seq,wall,count,d0,d1,d2,d3,ws⟩,a,c⟩) HQ.out.1 (λq e=>?_),λq e=>?_,λ_ _ _ _ _ e=>by simp at e⟩
       ·obtain⟨ob,hob⟩:=HQ.out.2 q e;exact((h1.site hin).frozen hob).trans ((y.out.2.2.2.2.1.site (i:=i) d.out.2.2.2).frozen hob).symm
       ·obtain⟨ob,hob⟩:=HQ.out.2 q e;exact⟨i,ob,hin,hob⟩
      refine(qln _ h1 ⟨⟨o,.tx ⟨site,seq,wall,count,d0,d1,d2,d3,ws⟩⟩,a,c⟩ ok rfl).mono λe w' ⟨he,hS⟩=>⟨he,?_⟩;have s:=V.size;obtain⟨yv2,l2,g1',g2',gt⟩:=hS;refine⟨yv2,l2,g1',λq e=>(g2' q e).elim (h2 q) (λr=>.inr (by omega)),V.more gt (λq e=>?_)⟩;exact e.elim (λr=>.inl (.inl r)) (λr=>(h2 q r).imp .inr id)
     go_wp2_with fail
     refine SX.out.mono ?_;rintro e w5 ⟨rfl,hS⟩;have SN:Hid _:=hS;clear SX hS sm x0 x1 x2 x3 x4 x5 x6 x7 x8 t0 t1 t2 t3 t4 t5 t6 t7 t8 RX
     go_wp2_with fail
     go_roundw
     case rel=>exact⟨k+1,z+1,by omega,by have:=HZ.out;omega,by go_num,by show qfb _ _ _ _ _ _;rw[HT2.out];exact SN.out⟩
     case measure=>simp[intOf];have:=HZ.out;omega
   ·have g1:¬z<(kept.length:Int):=by omega
    have e:k=kept.length:=by omega
    go_wp2_with fail
    go_end0;have S9:=HS.out;rw[e,show ((kept.map (·.t)).take kept.length)=qf0 (W.S i) v0 v1 v2 v3 by rw[<-y.out.2.1];exact List.take_of_length_le (by simp)]at S9;have sm:=qee o (qf0 (W.S i) v0 v1 v2 v3) (setSite W i (qbi (W.S i) o v0 v1 v2 v3));have P1:qgi x b (qli b p (W.n+W.c) U) (qdb W i o v0 v1 v2 v3) wr:=S9.post (W:=W) (λ_=>Iff.rfl) sm.n sm.c;obtain⟨G5,J,K,kt⟩:=P1;have hs:=R.out.2.2.1.size;have hs2:=y.out.2.2.2.2.2.1.size
    have sub:∀q,qli b p (W.n+W.c) U q->G q\/w.heap.size<=q:=λq hq=>by
     rcases hq with r|⟨j,hj,r⟩
     ·exact .inl ((d.out.2.1 q).2 (.inl ((y.out.2.2.2.2.2.2.2.1 q).1 r)))
     ·exact(y.out.2.2.2.2.2.2.1 j q r).imp (λr2=>(d.out.2.1 q).2 (.inr ⟨j,hj,r2⟩)) id
    exact⟨rfl,G5,J,λq hq=>(K q hq).elim (sub q) (λr=>.inr (by omega)),(R.out.2.2.1.trans (qae.ofBelow y.out.2.2.2.2.2.1)).more kt sub⟩
theorem qwc (x:GrR) (w:World) (h:RW w b G W) (d:WfW W) (j:x.g.to<W.n) (l:qat w x.m.wa x.m.wc x.m.t.ws) (p:∀s a0 a1 a2 a3,x.g.body=.ask s a0 a1 a2 a3->x.wa=none/\x.wc=0) (k:q5f W.n x.g):
 Calls Tryz.prog 45 #[.pointer (some ⟨b,0,none⟩),.agg (qc4 x).toArray] w (q5m w b G W x.g):=by
 obtain⟨⟨to,body⟩,a,c⟩:=x;cases body with
 |tx t=>exact qzt t.site t.seq t.wall t.count t.d0 t.d1 t.d2 t.d3 t.ws a c w h d j l (by have:okT t=true:=k;have:=(qdn this).2.1;omega)
 |ask s v0 v1 v2 v3=>
  obtain⟨q,r⟩:0<=s/\s<(W.n:Int):=k;obtain⟨o,rfl⟩:∃o:Nat,s=o:=⟨s.toNat,by omega⟩;obtain⟨rfl,rfl⟩:a=none/\c=0:=p _ _ _ _ _ rfl;refine(qu7 v0 v1 v2 v3 w h d j (o:=o) (by omega)).mono λe w' ⟨u,v⟩=>⟨u,_,?_,v⟩;show (if 0<=(o:Int)/\(o:Int)<(W.n:Int)then _ else _);rw[if_pos ⟨q,r⟩];rfl
end Go.Proofs.YtemiamjnhoeniaaGreatDoor
