import Derived.Test.YtoanjdndmlffdaaGreatDoorRTakeB
import Derived.Test.YtoanjdndmlffdaaGreatDoorSiteI
set_option maxHeartbeats 16000000
set_option maxRecDepth 1000000
namespace Go.Proofs.YtoanjdndmlffdaaGreatDoor
open Go.RowKit
noncomputable def q8z:Code:=((Tryz.f84.body.bind (qfe 12)).getD .skip)
theorem qni {b:Nat} {G:Nat->Prop} {F:Nat->Option Obj} {S:qe} {E T a:Option Addr} {lc V cap:Nat} {sv:Value} {log waits:List TxM} {i l wall n q r s v:Int} {ws:List Wr} {nw:Bool} {y1 y2 y4 y5 y6 y8 y9 y10 y11 y12 y13 y14 y15 y16 y17 y18 y19 y20 y21 y22 y23 y24 y25 y26 y27 y28 y29 y30 y31 y32 y33 y34 y35 y36 y37 y38 y39 y40 y41 y42 y43 y44 y45 y46 y47 y48 y49 y50 y51 y52 y53 y54 y55 y56 y57 y58 y59 y60 y61 y62 y63 y64 y65 y66 y67 y68 y69 y70 y71 y72 y73 y74 y75 y76 y77 y78 y79 y80 y81 y82 y83 y84 y85 y86 y87 y88 y89 y90 y91 y92 y93 y94 y95 y96 y97 y98 y99 y100 y101 y102 y103 y104 y105 y106 y107 y108 y109 y110 y111 y112 y113 y114 y115 y116 y117 y118 y119 y120 y121 y122 y123 y124 y125 y126 y127 y128 y129 y130 y131 y132 y133 y134 y135 y136 y137 y138 y139 y140 y141 y142 y143 y144 y145 y146 y147 y148 y149 y150 y151 y152 y153 y154 y155 y156 y157 y158 y159 y160 y161 y162 y163 y164 y165 y166 y167 y168 y169 y170 y171 y172 y173 y174 y175 y176 y177 y178 y179 y180 y181 y182 y183 y184 y185 y186 y187 y188 y189 y190 y191 y192 y193 y194 y195 y196:Value} (w d:World) (L:vu d b (.slice E log.length lc) (.slice T waits.length V) sv S log waits)
 (hl:log.map (·.t)=S.log) (hw:waits.map (·.t)=S.waits) (hG:∀k,G k↔(qu b (.slice E log.length lc) (.slice T waits.length V) sv k\/∃m∈log++waits,m.blk k)) (hF:qdn d F log) (hGL:∀k,G k->k<w.heap.size) (hRB:qd d w.heap.size (T9 i l wall n q r s v a ws.length cap)) (hW4:qr d a cap ws) (sw:1<=ws.length/\ws.length<=5)
 (hn:waits.length<=900) (hI:j3 {S with waits:=S.waits++[⟨i,l,wall,n,q,r,s,v,ws⟩]}) (M:Bw w d) (hf:log.length<200) (h40:waits.length<40\/nw=true):
 Code.wp Tryz.prog q8z (λe a w'=>e=.ret/\a.defers=[]/\a.tmps[4]?=some (U 0)/\∃S',qfm {S with waits:=S.waits++[⟨i,l,wall,n,q,r,s,v,ws⟩]} S'/\RPo w b G F S' w') ⟨List.toArray ((PP b)::y1::y2::(PP w.heap.size)::y4::y5::y6::(.bool nw)::y8::y9::y10::y11::y12::y13::y14::y15::y16::y17::y18::y19::y20::y21::y22::y23::y24::y25::y26::y27::y28::y29::y30::y31::y32::y33::y34::y35::y36::y37::y38::y39::y40::y41::y42::y43::y44::y45::y46::y47::y48::y49::y50::y51::y52::y53::y54::y55::y56::y57::y58::y59::y60::y61::y62::y63::y64::y65::y66::y67::y68::y69::y70::y71::y72::y73::y74::y75::y76::y77::y78::y79::y80::y81::y82::y83::y84::y85::y86::y87::y88::y89::y90::y91::y92::y93::y94::y95::y96::y97::y98::y99::y100::y101::y102::y103::y104::y105::y106::y107::y108::y109::y110::y111::y112::y113::y114::y115::y116::y117::y118::y119::y120::y121::y122::y123::y124::y125::y126::y127::y128::y129::y130::y131::y132::y133::y134::y135::y136::y137::y138::y139::y140::y141::y142::y143::y144::y145::y146::y147::y148::y149::y150::y151::y152::y153::y154::y155::y156::y157::y158::y159::y160::y161::y162::y163::y164::y165::y166::y167::y168::y169::y170::y171::y172::y173::y174::y175::y176::y177::y178::y179::y180::y181::y182::y183::y184::y185::y186::y187::y188::y189::y190::y191::y192::y193::y194::y195::y196::[]),[]⟩ d:=by
 have PM4:=hd1 L;have B:=hd3 hl hw hG;have N:=hd1 hGL;have HF4:=hd1 hF;have W:=hd1 hRB;have HW4:=hd1 hW4;have Y:=hd1 sw
 have HLN:Hid (waits.length<=1000):=by show _<=_;omega
 have HN9:=hd1 hn;have HI:=hd1 hI;obtain⟨la',lc',el,hLT⟩:=yx L.rlog;obtain⟨va',vc',ev,hVT⟩:=yx L.rwait;injection el with el1 el2 el3;injection ev with ev1 ev2 ev3;subst el1 el3 ev1 ev3;have hvl:=hVT.len;have hvc:=hVT.cap;have hll:=hLT.len;have hlc:=hLT.cap;have s7:=L.box.c 7;have s8:=L.box.c 8
 have D:¬(200:Int)<=(log.length:Int):=by omega
 conv=>arg 2;whnf
 by_cases g4:waits.length<40
 have g40:¬(40:Int)<=(waits.length:Int):=by omega
 rotate_left
 have g40:(40:Int)<=(waits.length:Int):=by omega
 have hnw:=h40.resolve_left g4;subst hnw
 all_goals
  obtain⟨O,P,haa,hcc⟩:∃O P,a=some (AD O P)/\qbo d O P ws:=by
   rcases HW4.out.held with h0|h0
   ·exfalso
    have:=Y.out;rw[h0]at this;simp at this
   exact h0
  have Z:=W.out.c 8;have f8:=W.out.f 8;have HN4:Hid (∀j u,(qcf ws)[j]?=some u->(d.nu #[] 100).cell? (((AD O P):Addr).add j)=some u):=qsc (hcc.later (boxed (jcc _ d) _));have own0:=qjq d 100 rfl d.heap.size (jcd _);obtain⟨i0,hi,hz0,hz1,hz2⟩:=info_parts qmn;have lt8:=W.out.lt;rw[haa]at Z
  go_wp2_with (at_builtin;refine wpList_append_lies _ rfl (.tmp 94) (.tmp 96) 88 rfl d.heap.size 100 i0 (.agg #[U 0,.string ⟨#[]⟩,.bool false]) 3 32 Tryz.underlying88 hi hz0 hz1 hz2 rfl (by decide) (.slice (PT d.heap.size) 0 0) 0 [] rfl own0 (AD O P) ws.length cap (qcf ws) rfl (qdt ws) HN4.out (qji ws) (by have:=Y.out;omega) (by have:=Y.out;simp only[maxLen];omega) (by have:=Y.out;omega) (by simp) _ rfl ?_;intro g y H ownE aa egE ltE;have RBE:=(W.out.boxed (.cells #[] 100)).grown aa (λe=>by simp[Value.ownBlock]at e<;>omega);have f8E:=RBE.f 8;have t8E:=RBE.c 8)
  have HGE:=hd2 (show d.heap.size<=g from by rcases egE with h|h<;>simp[Value.ownBlock]at h<;>omega) ltE;have hbE:=(boxed M (.cells #[] 100)).grown aa (by have:=M.size;simp;omega) (λj hj=>by have:=M.size;simp[Value.ownBlock]at hj;omega)
  have WGE:qr H (PT g) y ws:=by
   rw[Nat.zero_add,jda]at ownE;obtain⟨a9,c9,e9,hW9⟩:=qbg ownE;injection e9 with Q e2 e3;subst Q e3;exact hW9
  have hb5:=hbE.setCell (p:=AD w.heap.size 8) (jcd _) (.slice (PT g) ws.length y);have RB5:qd (H.setCell (AD w.heap.size 8) (.slice (PT g) ws.length y)) w.heap.size (T9 i l wall n q r s v (PT g) ws.length y):=RBE.set 8 _ (by simp);have HKB:Hid (∀k,k≠w.heap.size->k<d.heap.size->(H.setCell (AD w.heap.size 8) (.slice (PT g) ws.length y)).heap[k]?=d.heap[k]?):=λk z hl=>(jce _ _ _ _ z).trans ((aa.block k (by simp;omega) (λe=>by simp[Value.ownBlock]at e;omega)).trans (jdg _ _ _ hl));have WG5:qr (H.setCell (AD w.heap.size 8) (.slice (PT g) ws.length y)) (PT g) y ws:=qr.kept (m:=⟨⟨i,l,wall,n,q,r,s,v,ws⟩,some (AD g 0),y⟩) (w:=H) WGE (λk e=>jce _ _ _ _ (by obtain⟨_,o,e⟩:=e;injection e with e;injection e with e;have:=HGE.out;simp only;omega));obtain⟨I,hW5⟩:∃I,H.setCell (AD w.heap.size 8) (.slice (PT g) ws.length y)=I:=⟨_,rfl⟩;rw[hW5]at hb5 RB5 HKB WG5 ⊢
  have hs5:d.heap.size<=I.heap.size:=by rw[<-hW5];have:=aa.size;simp[World.setCell]at this ⊢;omega
  have R:=hd1 (PM4.out.keptB (λk z=>HKB.out k (by have:=N.out k ((B.out.2.2 k).2 z);omega) (by have:=N.out k ((B.out.2.2 k).2 z);have:=M.size;omega)) hs5);have FR5:=hd1 (HF4.out.tj (λm hm k e=>have z:qu b (.slice E log.length lc) (.slice T waits.length V) sv k\/∃m∈log++waits,m.blk k:=.inr ⟨m,jcf.2 (.inl hm),e⟩;HKB.out k (by have:=N.out k ((B.out.2.2 k).2 z);omega) (by have:=N.out k ((B.out.2.2 k).2 z);have:=M.size;omega)) (λ_ h=>h))
  have HV5:Hid (qdy I T V waits):=by
   obtain⟨va',vc',ev,hv⟩:=yx R.out.rwait;injection ev with Q e2 e3;rw[Q,e3];exact hv
  have HW5:=hd3 WG5 (show w.heap.size<g from by have:=HGE.out;omega) (show g<I.heap.size from by rw[<-hW5];have:=HGE.out;simp[World.setCell];omega);refine qma (qui I HV5 HLN RB5 (R.out.box.c 8) (R.out.box.free 8 (by simp[vz])) _ ?_);intro u99 u100 u101 u102 u103 u104 u105 u106 u107 u108 u109 u110 w7 g2 c2 hb7 hg1 hg2 own7;rw[<-qjs]at own7
  have HBK:Hid (∀k,TxM.blk ⟨⟨i,l,wall,n,q,r,s,v,ws⟩,some (AD g 0),y⟩ k->k=g):=λk e=>by obtain⟨_,o,e⟩:=e;injection e with e;injection e with e;exact e.symm
  obtain⟨P7,T7,F7⟩:=R.out.reset hb7 hg1 own7 (by simp) (λm hm=>by
   rcases jcf.1 hm with C|C
   ·exact .inl C
   rw[jcj.1 C];refine .inr ⟨HW5.out.1,λk e hf=>?_⟩;have Q:=HBK.out k e;have:=N.out k ((B.out.2.2 k).2 (.inl hf));have:=HW5.out
   omega) (S.waits++[⟨i,l,wall,n,q,r,s,v,ws⟩])
  have fr8:=FR5.out.touch R.out T7 (λ_ h=>h);have Z:=(qc.ofBelow (F:=G) hb5).more T7 (λk z=>.inl ((B.out.2.2 k).2 (.inl z)))
  have g8:∀k,(qu b (.slice E log.length lc) (.slice (PT g2) (waits.length+1) c2) sv k\/∃m∈log++(waits++[⟨⟨i,l,wall,n,q,r,s,v,ws⟩,some (AD g 0),y⟩]),m.blk k)->G k\/w.heap.size<=k:=λk z=>by
   rcases z with C|⟨x,hx,C⟩
   ·rcases F7 k C with D|D
    ·exact .inl ((B.out.2.2 k).2 (.inl D))
    exact .inr (by have:=hb5.size;omega)
   rcases jcf.1 hx with D|D
   ·exact .inl ((B.out.2.2 k).2 (.inr ⟨x,jcf.2 (.inl D),C⟩))
   rcases jcf.1 D with h3|h3
   ·exact .inl ((B.out.2.2 k).2 (.inr ⟨x,jcf.2 (.inr h3),C⟩))
   rw[jcj.1 h3]at C;have Q:=HBK.out k C;have:=HW5.out;exact .inr (by omega)
  obtain⟨J,hW8⟩:∃J,w7.setCell (AD b 8) (.slice (PT g2) (waits.length+1) c2)=J:=⟨_,rfl⟩;rw[hW8]at P7 Z fr8 ⊢
  have M0:qns J b (λk=>qu b (.slice E log.length lc) (.slice (PT g2) (waits.length+1) c2) sv k\/∃m∈log++(waits++[⟨⟨i,l,wall,n,q,r,s,v,ws⟩,some (AD g 0),y⟩]),m.blk k) F {S with waits:=S.waits++[⟨i,l,wall,n,q,r,s,v,ws⟩]} {S with waits:=S.waits++[⟨i,l,wall,n,q,r,s,v,ws⟩]} J:=
   ⟨⟨_,⟨_,_,_,log,waits++[⟨⟨i,l,wall,n,q,r,s,v,ws⟩,some (AD g 0),y⟩],P7,B.out.1,by rw[jdb,B.out.2.1];rfl,λk=>jdl,fr8⟩,λk z=>.inl z⟩,⟨rfl,rfl,rfl,jcd _,λ_ _ _=>rfl⟩,HI.out,by show (S.waits++[_]).length<=1000;rw[<-B.out.2.1];have:=HN9.out;simp;omega,λX hX=>hX⟩
  have HFI:Hid (∀S' K,RPo J b (λk=>qu b (.slice E log.length lc) (.slice (PT g2) (waits.length+1) c2) sv k\/∃m∈log++(waits++[⟨⟨i,l,wall,n,q,r,s,v,ws⟩,some (AD g 0),y⟩]),m.blk k) F S' K->RPo w b G F S' K):=λS' K hp=>RPo.trans g8 Z hp
  go_wp2_with fail
  refine q58 (qw2 J M0 _ ?_);intro u8 u9 u10 u11 u111 u112 u113 u114 u115 u116 u117 u118 u119 u120 u121 u122 u123 u124 u125 u126 u127 u128 u129 u130 u131 u132 u133 u134 u135 u136 u137 u138 u139 u140 u141 u142 u143 u144 u145 u146 u147 u148 u149 u150 u151 u152 u153 u154 u155 u156 u157 u158 u159 u160 u161 u162 u163 u164 u165 u166 u167 u168 u169 u170 u171 u172 u173 u174 u175 u176 u177 u178 u179 u180 u181 u182 u183 u184 u185 u186 u187 u188 u189 u190 u191 u192 u193 u194 u195 u196 S' K hGo hPo;have FIN:Hid (∃S',qfm {S with waits:=S.waits++[⟨i,l,wall,n,q,r,s,v,ws⟩]} S'/\RPo w b G F S' K):=⟨S',hGo,HFI.out S' K hPo⟩
  go_wp2_with fail
  exact FIN.out
section
theorem qi8 {tmps:Array Value} {v:Value} (w:World) (h:tmps[4]?=some v):(results Tryz.f84 tmps).run Tryz.prog w=.ok v w:=by
 simp[results,Tryz.results84,go_sem,h]
variable {b:Nat} {G:Nat->Prop} {F:Nat->Option Obj} {S:qe}
theorem qvk (m:TxM) (w:World) (h:RS w b G F S) (hI:j3 S) (hn:S.waits.length<=900) (hW:qr w m.wa m.wc m.t.ws) (hnz:jf S m.t=0):
 Ca 84 #[PP b,txV m] w λe w'=>e=.returned (U (jf S m.t))/\∃S',zu S m.t S'/\RPo w b G F S' w':=by
 obtain⟨⟨c,d,wall,o,f,g,l,n,ws⟩,a,cap⟩:=m;simp only at hW hnz ⊢;have C:=hd1 hnz;clear hnz;have hb:=boxed (jcc _ w) (.cells #[U c,U d,U wall,U o,U f,U g,U l,U n,.slice a ws.length cap] 102);have H:=qd.new (w:=w) (T:=102) [U c,U d,U wall,U o,U f,U g,U l,U n,.slice a ws.length cap] rfl;change qd (w.nu #[U c,U d,U wall,U o,U f,U g,U l,U n,.slice a ws.length cap] 102) w.heap.size [U c,U d,U wall,U o,U f,U g,U l,U n,.slice a ws.length cap]at H;have hne:=qb.one;have P1:=h.later hb;have W1:=hW.later hb;have HGL:=hd1 h.lt;clear h hW;show Ca 84 #[PP b,.agg #[U c,U d,U wall,U o,U f,U g,U l,U n,.slice a ws.length cap]] w _;obtain⟨lv,wv,sv,log,waits,PM,hl,hw,hG,hF⟩:=id P1;obtain⟨la,lc,rfl,hLT⟩:=yx PM.rlog;obtain⟨va,vc,rfl,hVT⟩:=yx PM.rwait;have k0:=qb.cell (PM.box.cell 0 _ rfl);have O:=qb.cell (H.cell 0 _ rfl);have P:=qb.cell (H.cell 1 _ rfl);have t2:=qb.cell (H.cell 2 _ rfl);have t3:=qb.cell (H.cell 3 _ rfl);have t4:=qb.cell (H.cell 4 _ rfl);have t5:=qb.cell (H.cell 5 _ rfl);have t6:=qb.cell (H.cell 6 _ rfl);have t7:=qb.cell (H.cell 7 _ rfl);have t8:=qb.cell (H.cell 8 _ rfl);cases hok:okT ⟨c,d,wall,o,f,g,l,n,ws⟩
 ·have HK:Hid (jt c d wall o f g l n ws=false):=hok
  have E:jf S ⟨c,d,wall,o,f,g,l,n,ws⟩=1:=by unfold jf;rw[if_pos hok]
  exact absurd (C.out.symm.trans E) (by decide)
 have HK:Hid (jt c d wall o f g l n ws=true):=hok;obtain⟨⟨s0,s3⟩,⟨sq1,sq2⟩,sw⟩:=qcg hok;simp only at s0 s3 sq1 sq2 sw;have HOK:=hd1 hok;clear hok;by_cases hid:c=S.id
 ·have E:jf S ⟨c,d,wall,o,f,g,l,n,ws⟩=1:=by unfold jf;rw[if_neg (by rw[HOK.out];decide),if_pos hid]
  exact absurd (C.out.symm.trans E) (by decide)
 have i1:(c==S.id)=false:=by simp[hid]
 have i2:decide (c=S.id)=false:=by simp[hid]
 have HID:=hd1 hid;have q:=hd4 PM hl hw hG;have HI:=hd1 hI;have HFR:Hid (qdn _ F log):=hF;have HVT:=hd2 hVT hLT;have hvl:=hVT.len;have hvc:=hVT.cap;have hll:=hLT.len;have hlc:=hLT.cap;clear PM hl hw hG hF P1 hI hid hVT hLT;go_enter Tryz.func84,Tryz.ntmps84
 go_wp2_with fail
 refine qnr (by kernel_rfl) (by kernel_rfl) ?_
 repeat (go_big_quiet_step (first|rfl|(go_at_call 128;with_reducible exact qg (qfc (W1.later (qb.below _)) HK.out))))
 refine wpQuiet_nil ?_;rintro w2 ⟨⟨_,hb2⟩,rfl⟩;clear O P t2 t3 t4 t5 t6 t7 t8 k0;have PM2:=hd1 (q.out.1.later hb2);have RB2:=H.later hb2;have hbw:=qa hb hb2;have HB2:Hid (Below (w.nu #[U c,U d,U wall,U o,U f,U g,U l,U n,.slice a ws.length cap] 102).heap.size (w.nu #[U c,U d,U wall,U o,U f,U g,U l,U n,.slice a ws.length cap] 102) w2):=hb2;clear H hb hb2;have O:=qb.cell (RB2.cell 0 _ rfl);have P:=qb.cell (RB2.cell 1 _ rfl);have V:=qb.cell (qkc PM2.out.box s0 s3)
 have s4:c<4:=by omega
 obtain⟨D,hD⟩:∃D,qp c S.a0 S.a1 S.a2 S.a3=D:=⟨_,rfl⟩;have Z:=hd1 hD;rw[hD]at V;clear hD;by_cases hle:d<=D
 ·have E:jf S ⟨c,d,wall,o,f,g,l,n,ws⟩=9:=by unfold jf;rw[if_neg (by rw[HOK.out];decide),if_neg HID.out,if_pos (by rw[Z.out];exact hle)]
  exact absurd (C.out.symm.trans E) (by decide)
 have HLE:Hid (D<d):=by show _<_;omega
 have q1:=decide_eq_false hle;clear hle
 go_wp2_with fail
 refine qnr (by kernel_rfl) (by kernel_rfl) ?_
 repeat (go_big_quiet_step (first|rfl|fail))
 refine wpQuiet_nil ?_;rintro w3 ⟨⟨_,hb3⟩,rfl⟩;have PM3:=hd1 (PM2.out.later hb3);have RB3:=hd1 (RB2.later hb3);have hbw3:=qa hbw hb3;have HB3:=hd1 (qa HB2.out hb3);clear RB2 hbw hb3 O P V PM2 HB2;have s8:=PM3.out.box.cell 8 _ rfl
 go_wp2_with fail
 go_loopw [39] (λiv wr=>∃(k:Nat) (z:Int),k<=waits.length/\z=k/\iv=U z/\Hid (∀j x,j<k->waits[j]?=some x->vv x.t ⟨c,d,wall,o,f,g,l,n,ws⟩=false)/\Bw w3 wr) (λi _=>waits.length-(intOf i).toNat)
 case atStart=>exact⟨0,0,by omega,rfl,rfl,(λj x hj=>by omega),jcc _ _⟩
 obtain⟨k,z,hk,hz,rfl,HNM,M⟩:=hrel;have HZ:=hd1 hz;by_cases hlt:k<waits.length
 ·have W:z<(waits.length:Int):=by omega
  have g2:z.toNat=k:=by omega
  have g3:0<=z:=by omega
  clear hz
  obtain⟨wb,off,hwa,hcc⟩:∃wb off,va=some (AD wb off)/\∀i m r u,waits[i]?=some m->(txC m)[r]?=some u->(w.nu #[U c,U d,U wall,U o,U f,U g,U l,U n,.slice a ws.length cap] 102).cell? (AD wb (off+(i*9+r)))=some u:=by
   rcases HVT.out.1.held with e|e
   ·rw[e]at hlt;simp at hlt
   exact e
  obtain⟨⟨⟨xs,xq,xw,xc,y0,y1,y2,y3,yw⟩,ya,yc⟩,p⟩:∃m,waits[k]?=some m:=⟨waits[k],jcg hlt⟩;have HX:=hd1 p;have K:=λr u (hu:(txC ⟨⟨xs,xq,xw,xc,y0,y1,y2,y3,yw⟩,ya,yc⟩)[r]?=some u)=>(show wr.cell? (AD wb (off+k*9+r))=some u by rw[Nat.add_assoc];exact cell_later (qa HB3.out M) (hcc k _ r u p hu));have x0:=K 0 _ rfl;have x1:=K 1 _ rfl;have x2:=K 2 _ rfl;have x3:=K 3 _ rfl;have x4:=K 4 _ rfl;have x5:=K 5 _ rfl;have x6:=K 6 _ rfl;have x7:=K 7 _ rfl;have x8:=K 8 _ rfl;rw[Nat.add_zero]at x0;have s:=RB3.out.later M;have O:=s.cell 0 _ rfl;have P:=s.cell 1 _ rfl;have lt0:=s.lt;rw[hwa];clear K hcc p s;by_cases X:xs=c
  ·by_cases I:xq=d
   ·have Q:(xs==c)=true:=by simp[X]
    have Y:(xq==d)=true:=by simp[I]
    have E:jf S ⟨c,d,wall,o,f,g,l,n,ws⟩=9:=by
     unfold jf;rw[if_neg (by rw[HOK.out];decide),if_neg HID.out,if_neg (by rw[Z.out];have:=HLE.out;simp only;omega),if_pos];rw[<-q.out.2.2.1];exact List.any_eq_true.2 ⟨_,jcz.2 ⟨_,jcq HX.out,rfl⟩,qe5.2 ⟨X,I⟩⟩
    exact absurd (C.out.symm.trans E) (by decide)
   have Q:(xs==c)=true:=by simp[X]
   have Y:(xq==d)=false:=by simp[I]
   have HNQ:Hid (vv ⟨xs,xq,xw,xc,y0,y1,y2,y3,yw⟩ ⟨c,d,wall,o,f,g,l,n,ws⟩=false):=by show _=_;simp[vv,I]
   clear X I hwa
   go_wp2_with fail
   go_roundw
   case rel=>exact⟨k+1,z+1,by omega,by have:=HZ.out;omega,by go_num,(λj x hj p=>by
        rcases jc7 j k with h1|h1
        ·exact HNM.out j x h1 p
        have:j=k:=by omega
        subst this;rw[HX.out]at p;injection p with p;subst p
        exact HNQ.out),boxed M _⟩
   simp[intOf];have:=HZ.out;omega
  have Q:(xs==c)=false:=by simp[X]
  have HNQ:Hid (vv ⟨xs,xq,xw,xc,y0,y1,y2,y3,yw⟩ ⟨c,d,wall,o,f,g,l,n,ws⟩=false):=by show _=_;simp[vv,X]
  clear X hwa
  go_wp2_with fail
  go_roundw
  case rel=>exact⟨k+1,z+1,by omega,by have:=HZ.out;omega,by go_num,(λj x hj p=>by
   rcases jc7 j k with h1|h1
   ·exact HNM.out j x h1 p
   have:j=k:=by omega
   subst this;rw[HX.out]at p;injection p with p;subst p
   exact HNQ.out),boxed M _⟩
  simp[intOf];have:=HZ.out;omega
 have W:¬z<(waits.length:Int):=by omega
 have HNA:Hid (∀x∈waits,vv x.t ⟨c,d,wall,o,f,g,l,n,ws⟩=false):=λx p=>by
  obtain⟨j,hj⟩:=List.getElem?_of_mem p;exact HNM.out j x (by have:=(jck.1 hj).1;omega) hj
 clear hz HNM;have J:=hd1 (PM3.out.later M);have s:=hd1 (RB3.out.later M);have hbwr:=qa hbw3 M;have HBr:=hd1 (qa HB3.out M);clear hbw3 M PM3 RB3 HB3 s8 hk;have O:=qb.cell (s.out.cell 0 _ rfl);have P:=qb.cell (s.out.cell 1 _ rfl);have t4:=qb.cell (s.out.cell 4 _ rfl);have t5:=qb.cell (s.out.cell 5 _ rfl);have t6:=qb.cell (s.out.cell 6 _ rfl);have t7:=qb.cell (s.out.cell 7 _ rfl);have V:=qb.cell (qkc J.out.box s0 s3);have k1:=qb.cell (J.out.box.cell 1 _ rfl);have k2:=qb.cell (J.out.box.cell 2 _ rfl);have k3:=qb.cell (J.out.box.cell 3 _ rfl);have k4:=qb.cell (J.out.box.cell 4 _ rfl);rw[Z.out]at V;have hdd:=HI.out.dep c;rw[Z.out]at hdd;have hwr:=qd1 hdd
 have hlw:waits.length=S.waits.length:=by rw[<-q.out.2.2.1];simp
 have hlg:log.length=S.log.length:=by rw[<-q.out.2.1];simp
 have L:=hd3 hlw hlg hn
 have HRE:Hid (qz S ⟨c,d,wall,o,f,g,l,n,ws⟩=(decide (d=D+1)&&qa8 S.a0 S.a1 S.a2 S.a3 f g l n)):=by show qz S ⟨c,d,wall,o,f,g,l,n,ws⟩=_;unfold qz;rw[Z.out]
 have HAN:Hid (S.waits.any (λx=>vv x ⟨c,d,wall,o,f,g,l,n,ws⟩)=false):=by
  show _=_;rw[<-q.out.2.2.1,List.any_eq_false];intro x p;obtain⟨y,hy,rfl⟩:=jcz.1 p;rw[HNA.out y hy]
  decide
 have E0:Hid (jf S ⟨c,d,wall,o,f,g,l,n,ws⟩=if 200<=log.length then 12 else if 40<=waits.length/\qz S ⟨c,d,wall,o,f,g,l,n,ws⟩=false then 12 else 0):=by
  show jf S ⟨c,d,wall,o,f,g,l,n,ws⟩=_;unfold jf;rw[if_neg (by rw[HOK.out];decide),if_neg HID.out,if_neg (by rw[Z.out];have:=HLE.out;simp only;omega),if_neg (by rw[HAN.out];decide),L.out.1,L.out.2.1]
 clear hn hdd hlw hlg;by_cases I:d=D+1
 ·have q2:(d==D+1)=true:=by simp[I]
  have HQ:=hd1 I;clear I;cases hc:qa8 S.a0 S.a1 S.a2 S.a3 f g l n
  ·have HC:=hd1 hc
   have HR:Hid (qz S ⟨c,d,wall,o,f,g,l,n,ws⟩=false):=by show _=_;rw[HRE.out,hc];simp
   clear hc
   go_wp2_with fail
   refine qnr (by kernel_rfl) (by kernel_rfl) ?_
   repeat (go_big_quiet_step (first|rfl|(go_at_call 77;with_reducible exact qg (yo HC.out _))))
   refine wpQuiet_nil ?_;rintro w4 ⟨⟨_,B⟩,rfl⟩;clear HQ HC q2;have PM4:=hd1 (J.out.later B);have RB4:=hd1 (s.out.later B);have hbw4:=qa hbwr B;have R:=hd1 (qa HBr.out B);clear hbwr B J s HBr O P t4 t5 t6 t7 V k1 k2 k3 k4;obtain⟨Q,Y,e3,e4,e5⟩:=qf6 C.out
   have N:waits.length<40\/false=true:=by
        refine .inl (Nat.lt_of_not_le λN=>?_);have E:=C.out;rw[E0.out,if_neg (by have:=L.out;omega),if_pos ⟨N,HR.out⟩]at E;cases E
   go_step;go_step
   refine wp_mono (qni w w4 PM4.out q.out.2.1 q.out.2.2.1 q.out.2.2.2 (HFR.out.later q.out.1 R.out) HGL.out RB4.out (W1.later R.out) sw (by have:=L.out;omega) (HI.out.wait Q Y e4) hbw4 (by have:=L.out;omega) N) (λe a w' h=>?_);obtain⟨rfl,hd,ht,S',W,g2⟩:=h;exact bodyPost_ret (v:=U 0) (qi8 w' ht) hd ⟨by rw[C.out],S',.inr ⟨C.out,W⟩,g2⟩
  have HC:=hd1 hc
  have HR:Hid (qz S ⟨c,d,wall,o,f,g,l,n,ws⟩=true):=by show _=_;rw[HRE.out,hc,HQ.out];simp
  clear hc
  go_wp2_with fail
  refine qnr (by kernel_rfl) (by kernel_rfl) ?_
  repeat (go_big_quiet_step (first|rfl|(go_at_call 77;with_reducible exact qg (yo HC.out _))))
  refine wpQuiet_nil ?_;rintro w4 ⟨⟨_,B⟩,rfl⟩;clear HQ HC q2;have PM4:=hd1 (J.out.later B);have RB4:=hd1 (s.out.later B);have hbw4:=qa hbwr B;have R:=hd1 (qa HBr.out B);clear hbwr B J s HBr O P t4 t5 t6 t7 V k1 k2 k3 k4;obtain⟨Q,Y,e3,e4,e5⟩:=qf6 C.out;have N:waits.length<40\/true=true:=.inr rfl
  go_step;go_step
  refine wp_mono (qni w w4 PM4.out q.out.2.1 q.out.2.2.1 q.out.2.2.2 (HFR.out.later q.out.1 R.out) HGL.out RB4.out (W1.later R.out) sw (by have:=L.out;omega) (HI.out.wait Q Y e4) hbw4 (by have:=L.out;omega) N) (λe a w' h=>?_);obtain⟨rfl,hd,ht,S',W,g2⟩:=h;exact bodyPost_ret (v:=U 0) (qi8 w' ht) hd ⟨by rw[C.out],S',.inr ⟨C.out,W⟩,g2⟩
 have q2:(d==D+1)=false:=by simp[I]
 have HR:Hid (qz S ⟨c,d,wall,o,f,g,l,n,ws⟩=false):=by show _=_;rw[HRE.out];simp[I]
 clear I
 go_wp2_with fail
 refine qnr (by kernel_rfl) (by kernel_rfl) ?_
 repeat (go_big_quiet_step (first|rfl|fail))
 refine wpQuiet_nil ?_;rintro w4 ⟨⟨_,B⟩,rfl⟩;clear q2;have PM4:=hd1 (J.out.later B);have RB4:=hd1 (s.out.later B);have hbw4:=qa hbwr B;have R:=hd1 (qa HBr.out B);clear hbwr B J s HBr O P t4 t5 t6 t7 V k1 k2 k3 k4;obtain⟨Q,Y,e3,e4,e5⟩:=qf6 C.out
 have N:waits.length<40\/false=true:=by
  refine .inl (Nat.lt_of_not_le λN=>?_);have E:=C.out;rw[E0.out,if_neg (by have:=L.out;omega),if_pos ⟨N,HR.out⟩]at E;cases E
 go_step;go_step
 refine wp_mono (qni w w4 PM4.out q.out.2.1 q.out.2.2.1 q.out.2.2.2 (HFR.out.later q.out.1 R.out) HGL.out RB4.out (W1.later R.out) sw (by have:=L.out;omega) (HI.out.wait Q Y e4) hbw4 (by have:=L.out;omega) N) (λe a w' h=>?_);obtain⟨rfl,hd,ht,S',W,g2⟩:=h;exact bodyPost_ret (v:=U 0) (qi8 w' ht) hd ⟨by rw[C.out],S',.inr ⟨C.out,W⟩,g2⟩
theorem qvy (m:TxM) (w:World) (h:RS w b G F S) (a:j3 S) (c:S.waits.length<=900) (d:qr w m.wa m.wc m.t.ws):
 Ca 84 #[PP b,txV m] w λe w'=>e=.returned (U (jf S m.t))/\∃S',zu S m.t S'/\RPo w b G F S' w':=by
 by_cases f:jf S m.t=0
 ·exact qvk m w h a c d f
 exact qxa m w h a c d f
end
theorem qyt {G Q:Nat} {sv:Value} {l:List Hd} (a0 a1 a2 a3:Int) (w:World) (R:qfs w G Q sv l) (hl:l.length<=1000):
 Ca 88 #[.pointer (some (AD G Q)),.agg #[U a0,U a1,U a2,U a3]] w λe w'=>e=.returned (.tuple #[])/\qdg w G Q sv (qcr a0 a1 a2 a3 l) w':=by
 have hne:=qb.one;obtain⟨a,cap,rfl,hH⟩:=qhq R.own;have t:=qo.new w 77 a0 a1 a2 a3;have q:=boxed (jcc _ w) (.cells #[U a0,U a1,U a2,U a3] 77);have S1:=R.later q;have s0:=S1.box.cell;have hsb:=R.box.lt;go_enter Tryz.func88,Tryz.ntmps88
 go_wp2_with fail
 obtain⟨W,hWW⟩:∃W,w.alloc (.cells #[U a0,U a1,U a2,U a3] 77)=W:=⟨_,rfl⟩;rw[hWW]at t q ⊢
 go_loopw [4,14] (λsl iv wr=>∃(k:Nat) (z:Int) (y:List Hd) (lv:Value),lv=sl/\k<=l.length/\z=k/\iv=U z/\(l.take k).filter (qfh a0 a1 a2 a3 l)=y/\wr.ownsRow (w.heap.size+1) 185 7 lv y.length (qjb y)/\qo wr w.heap.size a0 a1 a2 a3/\Bw w wr) (λ_ i _=>l.length-(intOf i).toNat)
 case atStart=>exact⟨0,0,[],_,rfl,by omega,rfl,rfl,rfl,jcx _ _ _ _,t,q⟩
 obtain⟨k,z,y,lv,hsl,hk,hz,rfl,hkp,C,t,q⟩:=hrel;subst hsl;have S:=hd1 hkp;have HZ:=hd1 hz;by_cases E:k<l.length
 ·have h1:z<(l.length:Int):=by omega
  have h2:z.toNat=k:=by omega
  have h3:0<=z:=by omega
  have Z:=R.later q;have hH4:=hH.later q
  obtain⟨b,K,rfl,aa⟩:∃b K,a=some (AD b K)/\∀i r u,i<l.length->(hdL (qbd l i))[r]?=some u->wr.cell? (AD b (K+(i*7+r)))=some u:=by
   rcases hH4.held with h0|h0
   ·rw[h0]at E;simp at E
   exact h0
  obtain⟨⟨B,⟨m,n,f,h,o,p⟩⟩,H⟩:∃x,qbd l k=x:=⟨_,rfl⟩;have x0:wr.cell? (AD b (K+k*7))=some (U B):=aa k 0 _ E (by rw[H];rfl);have x1:wr.cell? (AD b (K+k*7+1))=some (U m):=aa k 1 _ E (by rw[H];rfl);have x2:wr.cell? (AD b (K+k*7+2))=some (U n):=aa k 2 _ E (by rw[H];rfl);have x3:wr.cell? (AD b (K+k*7+3))=some (U f):=aa k 3 _ E (by rw[H];rfl);have x4:wr.cell? (AD b (K+k*7+4))=some (U h):=aa k 4 _ E (by rw[H];rfl);have x5:wr.cell? (AD b (K+k*7+5))=some (.string o):=aa k 5 _ E (by rw[H];rfl);have x6:wr.cell? (AD b (K+k*7+6))=some (.bool p):=aa k 6 _ E (by rw[H];rfl);have hsite:=qk5 (R.ok (qbd l k) (by simp only[qbd,List.getD,jcg E,Option.getD_some];exact jdr E));rw[H]at hsite;simp only at hsite;obtain⟨t0,t1⟩:=hsite
  have t2:f<4:=by omega
  have HX:=hd1 H;replace Z:=Z.later (boxed (jcc _ wr) (.cells #[U B,U m,U n,U f,U h,.string o,.bool p] 185));replace hH4:=hH4.later (boxed (jcc _ wr) (.cells #[U B,U m,U n,U f,U h,.string o,.bool p] 185));replace t:=t.boxed (.cells #[U B,U m,U n,U f,U h,.string o,.bool p] 185);replace C:=C.alloc (.cells #[U B,U m,U n,U f,U h,.string o,.bool p] 185);replace q:=boxed q (.cells #[U B,U m,U n,U f,U h,.string o,.bool p] 185);have d:=qd.new (w:=wr) (T:=185) [U B,U m,U n,U f,U h,.string o,.bool p] rfl;have c0:=t.c0;have c1:=t.c1;have c2:=t.c2;have c3:=t.c3;have y0:=d.c 0
  go_wp2_with fail
  refine(qri B a0 a1 a2 a3 _ (Z.box.cell) hH4 R.ok (by omega)).mono ?_;rintro e w2 ⟨rfl,hb2⟩;obtain⟨best,hbest⟩:∃best,zn B a0 a1 a2 a3 l=best:=⟨_,rfl⟩
  have KE:Hid (qfh a0 a1 a2 a3 l (qbd l k)=(!(qga best)||eqV (best.getD jq) ⟨m,n,f,h,o,p⟩||!(qdp a0 a1 a2 a3 ⟨m,n,f,h,o,p⟩))):=by
   show qfh a0 a1 a2 a3 l (qbd l k)=_;rw[HX.out,<-hbest];rfl
  rw[hbest,qjl];obtain⟨sbv,hsbv⟩:∃s,qga best=s:=⟨_,rfl⟩;obtain⟨bv,hbv⟩:∃v,best.getD jq=v:=⟨_,rfl⟩;rw[hsbv,hbv]at KE ⊢;obtain⟨L,M,bs,N,O,P⟩:=bv;rw[show qh ⟨L,M,bs,N,O,P⟩=[U L,U M,U bs,U N,.string O,.bool P]from rfl];replace t:=(t.later hb2).boxed (.cells #[U L,U M,U bs,U N,.string O,.bool P] 130);replace d:=(d.later hb2).boxed (.cells #[U L,U M,U bs,U N,.string O,.bool P] 130);replace C:=(qe1 C hb2).alloc (.cells #[U L,U M,U bs,U N,.string O,.bool P] 130);replace q:=boxed (qa q hb2) (.cells #[U L,U M,U bs,U N,.string O,.bool P] 130);have RB:=qd.new (w:=w2) (T:=130) [U L,U M,U bs,U N,.string O,.bool P] rfl;have hat:=qb.cell (qk9 t t0 t1);have w0:=qb.cell (d.c 0);have w1:=qb.cell (d.c 1);have w2':=qb.cell (d.c 2);have w3:=qb.cell (d.c 3);have w4:=qb.cell (d.c 4);have w5':=qb.cell (d.c 5);have w6:=qb.cell (d.c 6);have v0:=qb.cell (RB.c 0);have v1:=qb.cell (RB.c 1);have v2:=qb.cell (RB.c 2);have v3:=qb.cell (RB.c 3);have v4:=qb.cell (RB.c 4);have v5:=qb.cell (RB.c 5);cases sbv
  ·go_wp2_with fail
   refine wrl ?_
   repeat (go_big_quiet_step (fail))
   refine wpQuiet_nil ?_;rintro I ⟨⟨_,D⟩,rfl⟩;replace t:=t.later D;replace d:=d.later D;replace C:=qe1 C D;replace q:=qa q D
   have KF:Hid ((l.take (k+1)).filter (qfh a0 a1 a2 a3 l)=y++[⟨B,⟨m,n,f,h,o,p⟩⟩]):=by
        have e:qfh a0 a1 a2 a3 l (qbd l k)=true:=by rw[KE.out];rfl
        show (l.take (k+1)).filter (qfh a0 a1 a2 a3 l)=_;rw[qn0 E,jdk,S.out,<-HX.out];simp[e]
   have y0:=d.c 0;have y1:=d.c 1;have y2:=d.c 2;have y3:=d.c 3;have y4:=d.c 4;have y5:=d.c 5;have y6:=d.c 6;obtain⟨i0,hi,hz0,hz1,hz2⟩:=info_parts qj2;have hk6:=qj6 S.out
   have hsz5:w.heap.size+1<=I.heap.size:=by have:=t.lt;omega
   go_wp2_with (at_builtin;refine wpList_append_lies _ rfl (.tmp 45) (.tmp 47) 81 rfl (w.heap.size+1) 185 i0 (.agg #[U 0,U 0,U 0,U 0,U 0,.string ⟨#[]⟩,.bool false]) 7 64 Tryz.underlying81 hi hz0 hz1 hz2 rfl (by decide) lv y.length (qjb y) rfl (C.alloc _) (AD I.heap.size 0) 1 1 (hdL ⟨B,⟨m,n,f,h,o,p⟩⟩) rfl rfl (World.news_of_block (heap_alloc_new I (.cells #[U B,U m,U n,U f,U h,.string o,.bool p] 185))) (by intro u V;simp[hdL]at V;rcases V with rfl|rfl|rfl|rfl|rfl|rfl|rfl<;>rfl) (by decide) (by simp only[maxLen];omega) (by omega) (by simp;omega) _ rfl ?_;intro g X wE ownE Y egE ltE)
   have J:=λj F=>(C.lt j F).1;have RAE:=(t.boxed (.cells #[U B,U m,U n,U f,U h,.string o,.bool p] 185)).grown4 Y (λe=>by have:=J _ e.symm;omega);have hbE:=(boxed q (.cells #[U B,U m,U n,U f,U h,.string o,.bool p] 185)).grown Y (by have:=q.size;simp;omega) (λj F=>by have:=J j F;omega)
   go_roundw
   case rel=>exact⟨k+1,z+1,y++[⟨B,⟨m,n,f,h,o,p⟩⟩],_,rfl,by omega,by have:=HZ.out;omega,by go_num,KF.out,by rw[qh8,jcl];exact ownE,RAE,hbE⟩
   simp[intOf];omega
  cases ev:eqV ⟨L,M,bs,N,O,P⟩ ⟨m,n,f,h,o,p⟩
  ·have eqv2:=λw=>(qzu ⟨L,M,bs,N,O,P⟩ ⟨m,n,f,h,o,p⟩ w).trans (by rw[ev]);cases hh:qdp a0 a1 a2 a3 ⟨m,n,f,h,o,p⟩
   ·have dh:decide (qp f a0 a1 a2 a3<h)=true:=decide_eq_true (by have:=of_decide_eq_false (show decide (h<=qp f a0 a1 a2 a3)=false from hh);omega)
    go_wp2_with fail
    refine wrl ?_
    repeat (go_big_quiet_step (fail))
    refine wpQuiet_nil ?_;rintro I ⟨⟨_,D⟩,rfl⟩;replace t:=t.later D;replace d:=d.later D;replace C:=qe1 C D;replace q:=qa q D
    have KF:Hid ((l.take (k+1)).filter (qfh a0 a1 a2 a3 l)=y++[⟨B,⟨m,n,f,h,o,p⟩⟩]):=by
     have e:qfh a0 a1 a2 a3 l (qbd l k)=true:=by rw[KE.out];rw[ev,hh];rfl
     show (l.take (k+1)).filter (qfh a0 a1 a2 a3 l)=_;rw[qn0 E,jdk,S.out,<-HX.out];simp[e]
    have y0:=d.c 0;have y1:=d.c 1;have y2:=d.c 2;have y3:=d.c 3;have y4:=d.c 4;have y5:=d.c 5;have y6:=d.c 6;obtain⟨i0,hi,hz0,hz1,hz2⟩:=info_parts qj2;have hk6:=qj6 S.out
    have hsz5:w.heap.size+1<=I.heap.size:=by have:=t.lt;omega
    go_wp2_with (at_builtin;refine wpList_append_lies _ rfl (.tmp 45) (.tmp 47) 81 rfl (w.heap.size+1) 185 i0 (.agg #[U 0,U 0,U 0,U 0,U 0,.string ⟨#[]⟩,.bool false]) 7 64 Tryz.underlying81 hi hz0 hz1 hz2 rfl (by decide) lv y.length (qjb y) rfl (C.alloc _) (AD I.heap.size 0) 1 1 (hdL ⟨B,⟨m,n,f,h,o,p⟩⟩) rfl rfl (World.news_of_block (heap_alloc_new I (.cells #[U B,U m,U n,U f,U h,.string o,.bool p] 185))) (by intro u V;simp[hdL]at V;rcases V with rfl|rfl|rfl|rfl|rfl|rfl|rfl<;>rfl) (by decide) (by simp only[maxLen];omega) (by omega) (by simp;omega) _ rfl ?_;intro g X wE ownE Y egE ltE)
    have J:=λj F=>(C.lt j F).1;have RAE:=(t.boxed (.cells #[U B,U m,U n,U f,U h,.string o,.bool p] 185)).grown4 Y (λe=>by have:=J _ e.symm;omega);have hbE:=(boxed q (.cells #[U B,U m,U n,U f,U h,.string o,.bool p] 185)).grown Y (by have:=q.size;simp;omega) (λj F=>by have:=J j F;omega)
    go_roundw
    case rel=>exact⟨k+1,z+1,y++[⟨B,⟨m,n,f,h,o,p⟩⟩],_,rfl,by omega,by have:=HZ.out;omega,by go_num,KF.out,by rw[qh8,jcl];exact ownE,RAE,hbE⟩
    simp[intOf];omega
   have dh:decide (qp f a0 a1 a2 a3<h)=false:=decide_eq_false (by have:=of_decide_eq_true (show decide (h<=qp f a0 a1 a2 a3)=true from hh);omega)
   go_wp2_with fail
   refine wrl ?_
   repeat (go_big_quiet_step (fail))
   refine wpQuiet_nil ?_;rintro I ⟨⟨_,D⟩,rfl⟩;replace t:=t.later D;replace d:=d.later D;replace C:=qe1 C D;replace q:=qa q D
   have KF:Hid ((l.take (k+1)).filter (qfh a0 a1 a2 a3 l)=y):=by
        have e:qfh a0 a1 a2 a3 l (qbd l k)=false:=by rw[KE.out];rw[ev,hh];rfl
        show (l.take (k+1)).filter (qfh a0 a1 a2 a3 l)=y;rw[qn0 E,jdk,S.out];simp[e]
   go_wp2_with fail
   go_roundw
   case rel=>exact⟨k+1,z+1,y,_,rfl,by omega,by have:=HZ.out;omega,by go_num,KF.out,C,t,q⟩
   simp[intOf];omega
  have eqv2:=λw=>(qzu ⟨L,M,bs,N,O,P⟩ ⟨m,n,f,h,o,p⟩ w).trans (by rw[ev])
  go_wp2_with fail
  refine wrl ?_
  repeat (go_big_quiet_step (fail))
  refine wpQuiet_nil ?_;rintro I ⟨⟨_,D⟩,rfl⟩;replace t:=t.later D;replace d:=d.later D;replace C:=qe1 C D;replace q:=qa q D
  have KF:Hid ((l.take (k+1)).filter (qfh a0 a1 a2 a3 l)=y++[⟨B,⟨m,n,f,h,o,p⟩⟩]):=by
   have e:qfh a0 a1 a2 a3 l (qbd l k)=true:=by rw[KE.out];rw[ev];rfl
   show (l.take (k+1)).filter (qfh a0 a1 a2 a3 l)=_;rw[qn0 E,jdk,S.out,<-HX.out];simp[e]
  have y0:=d.c 0;have y1:=d.c 1;have y2:=d.c 2;have y3:=d.c 3;have y4:=d.c 4;have y5:=d.c 5;have y6:=d.c 6;obtain⟨i0,hi,hz0,hz1,hz2⟩:=info_parts qj2;have hk6:=qj6 S.out
  have hsz5:w.heap.size+1<=I.heap.size:=by have:=t.lt;omega
  go_wp2_with (at_builtin;refine wpList_append_lies _ rfl (.tmp 45) (.tmp 47) 81 rfl (w.heap.size+1) 185 i0 (.agg #[U 0,U 0,U 0,U 0,U 0,.string ⟨#[]⟩,.bool false]) 7 64 Tryz.underlying81 hi hz0 hz1 hz2 rfl (by decide) lv y.length (qjb y) rfl (C.alloc _) (AD I.heap.size 0) 1 1 (hdL ⟨B,⟨m,n,f,h,o,p⟩⟩) rfl rfl (World.news_of_block (heap_alloc_new I (.cells #[U B,U m,U n,U f,U h,.string o,.bool p] 185))) (by intro u V;simp[hdL]at V;rcases V with rfl|rfl|rfl|rfl|rfl|rfl|rfl<;>rfl) (by decide) (by simp only[maxLen];omega) (by omega) (by simp;omega) _ rfl ?_;intro g X wE ownE Y egE ltE)
  have J:=λj F=>(C.lt j F).1;have RAE:=(t.boxed (.cells #[U B,U m,U n,U f,U h,.string o,.bool p] 185)).grown4 Y (λe=>by have:=J _ e.symm;omega);have hbE:=(boxed q (.cells #[U B,U m,U n,U f,U h,.string o,.bool p] 185)).grown Y (by have:=q.size;simp;omega) (λj F=>by have:=J j F;omega)
  go_roundw
  case rel=>exact⟨k+1,z+1,y++[⟨B,⟨m,n,f,h,o,p⟩⟩],_,rfl,by omega,by have:=HZ.out;omega,by go_num,KF.out,by rw[qh8,jcl];exact ownE,RAE,hbE⟩
  simp[intOf];omega
 have h4:¬z<(l.length:Int):=by omega
 have e:k=l.length:=by omega
 have KP:Hid (qcr a0 a1 a2 a3 l=y):=by
  show qcr a0 a1 a2 a3 l=y;have:=S.out;rw[e,jc9]at this;exact this
 have Z:=R.later q;have s0:=Z.box.cell;have s1:=Z.box.free;have J:=λj F=>(C.lt j F).1;obtain⟨a9,X,rfl,_⟩:=qhq C;have BZ:=Z.box.set (.slice a9 y.length X)
 have nsb:(Value.slice a9 y.length X).ownBlock≠some G:=λe=>by have:=J G e;omega
 have ownZ:=Joins.ownsRow_le (C.kept (row:=some G) (qhs G Q wr (.slice a9 y.length X)) (.inr nsb)) (jcw _);have TZ:qc (q0q G (.slice a l.length cap)) w (wr.setCell (AD G Q) (.slice a9 y.length X)):=(qc.ofBelow q).trans (qc.setCell wr (AD G Q) _ (.inl rfl))
 have FIN:Hid (qdg w G Q (.slice a l.length cap) y (wr.setCell (AD G Q) (.slice a9 y.length X))):=
  ⟨_,⟨BZ,ownZ,nsb,λx H=>by
    rw[<-KP.out]at H
    exact R.ok x (jdq.1 H).1⟩,λj F=>.inr (by have:=J j F;omega),TZ,(qc6.ofBlock (q.block G hsb)).trans (qc6.set G Q wr _)⟩
 go_wp2_with fail
 go_end0;exact⟨rfl,by rw[KP.out];exact FIN.out⟩
theorem q3m {M N:Nat} {sv:Value} {l:List Hd} (a0 a1 a2 a3:Int) (w:World) (E:qfs w M N sv l) (hl:l.length<=1000):
 Ca 43 #[.pointer (some (AD M N)),.agg #[U a0,U a1,U a2,U a3]] w λe w'=>∃v,e=.returned v/\w'.ownsRow (w.heap.size+1) 9 1 v 8 (qej a0 a1 a2 a3 l 8)/\Bw w w':=by
 obtain⟨a,cap,rfl,hH⟩:=qhq E.own;have d:=qo.new w 77 a0 a1 a2 a3;have f:=boxed (jcc _ w) (.cells #[U a0,U a1,U a2,U a3] 77);go_enter Tryz.func43,Tryz.ntmps43
 go_wp2_with fail
 obtain⟨W,O⟩:∃W,w.alloc (.cells #[U a0,U a1,U a2,U a3] 77)=W:=⟨_,rfl⟩;rw[O]at d f ⊢;clear O
 go_loopw [5,9] (λsl iv wr=>∃(k:Nat) (z:Int) (lv:Value),lv=sl/\k<=8/\z=k/\iv=U z/\wr.ownsRow (w.heap.size+1) 9 1 lv k (qej a0 a1 a2 a3 l k)/\qo wr w.heap.size a0 a1 a2 a3/\Bw w wr) (λ_ i _=>8-(intOf i).toNat)
 case atStart=>exact⟨0,0,_,rfl,by omega,rfl,rfl,jcx _ _ _ _,d,f⟩
 clear d f;obtain⟨k,z,lv,hsl,hk,Q,rfl,s,d,f⟩:=hrel;subst hsl;have F:=hd1 Q;by_cases hlt:k<8
 ·have h1:z<8:=by omega
  have h3:0<=z:=by omega
  have R:=E.later f;have S:=hH.later f;have c0:=d.c0;have c1:=d.c1;have c2:=d.c2;have c3:=d.c3;clear Q
  go_wp2_with fail
  refine(qrb z a0 a1 a2 a3 _ (R.box.cell) S E.ok (by omega)).mono ?_;rintro e w2 ⟨rfl,r⟩;clear c0 c1 c2 c3 R S;have G:=qoc (key:=z) (a0:=a0) (a1:=a1) (a2:=a2) (a3:=a3) E.ok
  have t:Hid (qdf a0 a1 a2 a3 l k=if (zz z a0 a1 a2 a3 l).2=0 then (⟨#[61]⟩:ByteArray)++(zz z a0 a1 a2 a3 l).1.data else ⟨#[]⟩):=by
   show qdf a0 a1 a2 a3 l k=_;rw[F.out];rfl
  obtain⟨⟨rv,V⟩,X⟩:∃x,zz z a0 a1 a2 a3 l=x:=⟨_,rfl⟩;rw[X]at t G ⊢;simp only at t G ⊢;clear X;obtain⟨m,n,bs,o,b,p⟩:=rv;simp only at t G;rw[show qh ⟨m,n,bs,o,b,p⟩=[U m,U n,U bs,U o,.string b,.bool p]from rfl];replace d:=(d.later r).boxed (.cells #[U m,U n,U bs,U o,.string b,.bool p] 130);have Y:=s.kept (row:=none) ⟨r.os,r.tape,r.output,r.size,λj q _=>r.block j q⟩ (by cases lv.ownBlock<;>simp);replace s:=Y.alloc (.cells #[U m,U n,U bs,U o,.string b,.bool p] 130);replace f:=boxed (qa f r) (.cells #[U m,U n,U bs,U o,.string b,.bool p] 130);have RB:=qd.new (w:=w2) (T:=130) [U m,U n,U bs,U o,.string b,.bool p] rfl;clear r Y;have d3:=RB.c 4;obtain⟨Z,hi,aa,ab,ac⟩:=info_parts qki
  have hsz:w.heap.size+1<=w2.heap.size+1:=by have h:=d.lt;rw[jdi]at h;omega
  by_cases y:V=0
  ·have ee:(V==0)=true:=by simp[y]
   have H:Hid (qdf a0 a1 a2 a3 l k=(⟨#[61]⟩:ByteArray)++b):=by show qdf a0 a1 a2 a3 l k=_;rw[t.out,if_pos y]
   have ad:=λw=>qfi (P:=Tryz.prog) (⟨#[61]⟩:ByteArray) b (by have z:(⟨#[61]⟩:ByteArray).size=1:=rfl;omega) w;clear y t
   have I:((w2.alloc (.cells #[U m,U n,U bs,U o,.string b,.bool p] 130)).alloc (.cells #[.string ((⟨#[61]⟩:ByteArray)++b)] 9)).heap[w2.heap.size+1]?=some (.cells #[.string ((⟨#[61]⟩:ByteArray)++b)] 9):=by have h:=heap_alloc_new (w2.alloc (.cells #[U m,U n,U bs,U o,.string b,.bool p] 130)) (.cells #[.string ((⟨#[61]⟩:ByteArray)++b)] 9);rw[jdi]at h;exact h
   go_wp2_with (at_builtin;refine wpList_append_lies _ rfl (.tmp 21) (.tmp 25) 42 rfl (w.heap.size+1) 9 Z (.string ⟨#[]⟩) 1 16 Tryz.underlying42 hi aa ab ac rfl (by decide) lv k (qej a0 a1 a2 a3 l k) rfl (s.alloc _) (AD (w2.heap.size+1) 0) 1 1 [.string ((⟨#[61]⟩:ByteArray)++b)] rfl rfl (World.news_of_block I) (by intro u B;simp at B;rw[B];rfl) (by decide) (by simp only[maxLen];omega) (by omega) (by simp;omega) _ rfl ?_;intro g cap9 wE J C egE ltE)
   have D:=λj q=>(s.lt j q).1;have K:=(d.boxed (.cells #[.string ((⟨#[61]⟩:ByteArray)++b)] 9)).grown4 C (λe=>by have:=D _ e.symm;omega);have L:=(boxed f (.cells #[.string ((⟨#[61]⟩:ByteArray)++b)] 9)).grown C (by have:=f.size;simp;omega) (λj q=>by have:=D j q;omega)
   go_roundw
   case rel=>exact⟨k+1,z+1,_,rfl,by omega,by have:=F.out;omega,by go_num,by rw[qi3,H.out];exact J,K,L⟩
   simp[intOf];omega
  have ee:=beq_eq_false_iff_ne.2 y
  have H:Hid (qdf a0 a1 a2 a3 l k=⟨#[]⟩):=by show qdf a0 a1 a2 a3 l k=_;rw[t.out,if_neg y]
  clear y t
  have I:((w2.alloc (.cells #[U m,U n,U bs,U o,.string b,.bool p] 130)).alloc (.cells #[.string ⟨#[]⟩] 9)).heap[w2.heap.size+1]?=some (.cells #[.string ⟨#[]⟩] 9):=by have h:=heap_alloc_new (w2.alloc (.cells #[U m,U n,U bs,U o,.string b,.bool p] 130)) (.cells #[.string ⟨#[]⟩] 9);rw[jdi]at h;exact h
  go_wp2_with (at_builtin;refine wpList_append_lies _ rfl (.tmp 27) (.tmp 28) 42 rfl (w.heap.size+1) 9 Z (.string ⟨#[]⟩) 1 16 Tryz.underlying42 hi aa ab ac rfl (by decide) lv k (qej a0 a1 a2 a3 l k) rfl (s.alloc _) (AD (w2.heap.size+1) 0) 1 1 [.string ⟨#[]⟩] rfl rfl (World.news_of_block I) (by intro u B;simp at B;rw[B];rfl) (by decide) (by simp only[maxLen];omega) (by omega) (by simp;omega) _ rfl ?_;intro g cap9 wE J C egE ltE)
  have D:=λj q=>(s.lt j q).1;have K:=(d.boxed (.cells #[.string ⟨#[]⟩] 9)).grown4 C (λe=>by have:=D _ e.symm;omega);have L:=(boxed f (.cells #[.string ⟨#[]⟩] 9)).grown C (by have:=f.size;simp;omega) (λj q=>by have:=D j q;omega)
  go_roundw
  case rel=>exact⟨k+1,z+1,_,rfl,by omega,by have:=F.out;omega,by go_num,by rw[qi3,H.out];exact J,K,L⟩
  simp[intOf];omega
 obtain rfl:k=8:=by omega
 go_wp2_with fail
 go_ret;exact⟨lv,rfl,s,f⟩
section
variable {b:Nat} {G:Nat->Prop} {F:Nat->Option Obj} {S:qe}
theorem qug (a:Int) (w:World) (h:RS w b G F S):
 Ca 87 #[PP b,U a] w λe w'=>
  e=.returned (.agg #[U (qj S (jw a)).v0,U (qj S (jw a)).v1,U (qj S (jw a)).v2,U (qj S (jw a)).v3])/\Bw w w':=by
 obtain⟨lv,wv,sv,log,waits,h,_,_,_⟩:=h;exact qqk a w h
theorem q3z (a0 a1 a2 a3:Int) (w:World) (h:RS w b G F S) (a:j3 S):
 Ca 43 #[.pointer (some (AD b 9)),.agg #[U a0,U a1,U a2,U a3]] w λe w'=>∃v,e=.returned v/\w'.ownsRow (w.heap.size+1) 9 1 v 8 (qej a0 a1 a2 a3 S.l 8)/\Bw w w':=by
 obtain⟨lv,wv,sv,log,waits,h,_,_,_⟩:=h;exact q3m a0 a1 a2 a3 w h.st (by have:=a.len;have:=a.log;omega)
theorem qy5 (x0 x1 x2 x3:Int) (w:World) (h:RS w b G F S) (c:j3 S):
 Ca 88 #[.pointer (some (AD b 9)),.agg #[U x0,U x1,U x2,U x3]] w λe w'=>e=.returned (.tuple #[])/\RPo w b G F {S with l:=qcr x0 x1 x2 x3 S.l} w':=by
 obtain⟨lv,wv,sv,log,waits,h,f,g,i,j⟩:=h;refine(qyt x0 x1 x2 x3 w h.st (by have:=c.len;have:=c.log;omega)).mono λe w' ⟨k,n⟩=>⟨k,?_⟩;obtain⟨q,o,p,d⟩:=h.store n;exact RS.of f g i o p d (j.touch h d (λ_ a=>a)) (λm a=>.inl a)
end
section
theorem qq0 {α:Type} (f:Nat->α) (i:Nat):jj f i (f i)=f:=by
 funext j
 unfold jj;split
 ·rename_i e;rw[e]
 rfl
theorem qs4 (W:WoS) (i:Nat):setSite W i (W.S i)=W:=by
 unfold setSite;rw[qq0]
section
variable {w w':World} {b:Nat} {G:Nat->Prop} {F:Nat->Option Obj} {S:qe} {M:RoM} {W:WoS} {Gs:Nat->Nat->Prop}
theorem RWo.stepSm (h:RWo w b M W Gs) {i:Nat} (hi:i<W.n) {S':qe} {F':Nat->Option Obj} (d:∀k o,M.F i k=some o->F' k=some o) (l:RPo w (M.bp i) (Gs i) F' S' w'):∃a,RWo w' b {M with F:=jj M.F i F'} (setSite W i S') a/\(∀j k,a j k->Gs j k\/w.heap.size<=k)/\qc (Gs i) w w':=by
 obtain⟨a,f,g,m,r⟩:=h.fam.stepG (ps':=qdm {M with F:=jj M.F i F'} (setSite W i S')) (i:=i) (by omega) (p:=qek (M.bp i) F' S') l (by show (if i<W.n then _ else _)=_;rw[if_pos hi];show qek (M.bp i) (jj M.F i F' i) (jj W.S i S' i)=_;rw[qt,qt]) (λj s c=>by
  show (if j<W.n then qek (M.bp j) (jj M.F i F' j) (jj W.S i S' j)else _)=(if j<W.n then _ else _);rw[yq _ _ c,yq _ _ c]
  rfl)
 refine⟨a,h.keep m f (λj k o s e=>?_) rfl rfl rfl rfl rfl rfl,g,r⟩;by_cases q:j=i
 ·subst q;rw[qt];exact d k o e
 rw[yq _ _ q];exact e
theorem qc5.next {i w2:World} {W1 k:WoS} (h:qc5 w b M Gs W1 i) (f:∀d g,RWo i b {M with yv:=d,l:=g} W1 Gs->qc5 i b {M with yv:=d,l:=g} Gs k w2):qc5 w b M Gs k w2:=by
 obtain⟨d,g,n,m,a⟩:=h;obtain⟨o,p,t,u,c⟩:=f d g n;have s:=a.size;refine⟨o,p,t,λq e=>?_,⟨c.os.trans a.os,c.tape.trans a.tape,c.output.trans a.output,jcn s c.size,λq v j=>?_⟩⟩
 ·rcases u q e with r|r
  ·exact m q r
  exact .inr (by omega)
 refine(c.block q (by omega) (λe=>?_)).trans (a.block q v j);rcases e with e|e
 ·exact j (.inl e)
 rcases m q e with r|r
 ·exact j (.inr r)
 omega
theorem vu.know {lv wv sv:Value} {log waits:List TxM} (h:vu w b lv wv sv S log waits) {k:Nat} (e:k<4) (x0 x1 x2 x3:Int):
 vu ((((w.setCell (AD b (10+k*4)) (U (jd (S.oth (k*4)) x0))).setCell (AD b (10+k*4+1)) (U (jd (S.oth (k*4+1)) x1))).setCell (AD b (10+k*4+2)) (U (jd (S.oth (k*4+2)) x2))).setCell (AD b (10+k*4+3)) (U (jd (S.oth (k*4+3)) x3))) b lv wv sv (vp S k x0 x1 x2 x3) log waits:=by
 have a:(vz S lv wv sv).length=26:=rfl;have a1:=h.box.set (10+k*4) (U (jd (S.oth (k*4)) x0)) (by rw[a];omega);have a2:=a1.set (10+k*4+1) (U (jd (S.oth (k*4+1)) x1)) (by rw[List.length_set,a];omega);have a3:=a2.set (10+k*4+2) (U (jd (S.oth (k*4+2)) x2)) (by rw[List.length_set,List.length_set,a];omega);have c:=a3.set (10+k*4+3) (U (jd (S.oth (k*4+3)) x3)) (by rw[List.length_set,List.length_set,List.length_set,a];omega);refine h.cells (λj d=>?_) ?_ rfl
 ·rw[jce _ _ _ _ d,jce _ _ _ _ d,jce _ _ _ _ d,jce _ _ _ _ d]
 match k,e with
 |0,_=>exact c
 |1,_=>exact c
 |2,_=>exact c
 |3,_=>exact c
theorem RS.know (h:RS w b G F S) {k:Nat} (l:k<4) (x0 x1 x2 x3:Int):
 RPo w b G F (vp S k x0 x1 x2 x3) ((((w.setCell (AD b (10+k*4)) (U (jd (S.oth (k*4)) x0))).setCell (AD b (10+k*4+1)) (U (jd (S.oth (k*4+1)) x1))).setCell (AD b (10+k*4+2)) (U (jd (S.oth (k*4+2)) x2))).setCell (AD b (10+k*4+3)) (U (jd (S.oth (k*4+3)) x3))):=by
 obtain⟨lv,wv,sv,log,waits,g,m,n,i,p⟩:=h;have c:∀(w:World) (o:Nat) (u:Value),qc (λj=>j=b) w (w.setCell (AD b o) u):=λw o u=>qc.setCell w (AD b o) u rfl;have a:qc (λj=>j=b) w ((((w.setCell (AD b (10+k*4)) (U (jd (S.oth (k*4)) x0))).setCell (AD b (10+k*4+1)) (U (jd (S.oth (k*4+1)) x1))).setCell (AD b (10+k*4+2)) (U (jd (S.oth (k*4+2)) x2))).setCell (AD b (10+k*4+3)) (U (jd (S.oth (k*4+3)) x3))):=(((c _ _ _).trans (c _ _ _)).trans (c _ _ _)).trans (c _ _ _);refine⟨G,⟨lv,wv,sv,log,waits,g.know l x0 x1 x2 x3,m,n,i,p.touch g ⟨a.os,a.tape,a.output,a.size,λj d f=>a.block j d (λe=>f (.inl e))⟩ (λ_ q=>q)⟩,λ_ e=>.inl e,⟨a.os,a.tape,a.output,a.size,λj d f=>a.block j d (λe=>f ((i j).2 (.inl (.inl e))))⟩⟩
open Classical in
theorem qs9 (c d f g:Int) (w:World) (h:RS w b G F S) (l:j3 S):
 Ca 85 #[PP b,.agg #[U c,U d,U f,U g]] w λe w'=>∃v,e=.returned v/\∃(i:List TxM) (F':Nat->Option Obj),i.map (·.t)=qd6 S c d f g/\w'.ownsRow (w.heap.size+1) 102 9 v i.length (zw i)/\(∀m∈i,qr w' m.wa m.wc m.t.ws/\∀k,m.blk k->∃o,F' k=some o)/\(∀k o,F k=some o->F' k=some o)/\RS w b G F' S/\Bw w w':=by
 obtain⟨lv,wv,sv,log,waits,h,j,p,r,s⟩:=h
 have A:log.length=S.log.length:=by rw[<-j];simp
 refine(qpt c d f g w h (λm a=>(l.lsite m.t (by rw[<-j];exact jcz.2 ⟨m,a,rfl⟩)).1) (by have:=l.log;omega)).mono λe w' ⟨v,u,x,n⟩=>⟨v,u,log.filter (qcs c d f g),λk=>if ∃m∈log,m.blk k then w.heap[k]?else none,qrt j _ _ _ _,x,λm a=>?_,λk o e=>?_,⟨lv,wv,sv,log,waits,h,j,p,r,λk o e=>?_⟩,n⟩
 ·have a:=(jdq.1 a).1;have q:=(h.hold m (jcf.2 (.inl a))).1;exact⟨q.later n,λk e=>⟨_,(if_pos ⟨m,a,e⟩).trans (jde (q.blk_lt k e))⟩⟩
 ·obtain⟨y,m,a,z⟩:=s k o e;show (if _ then _ else _)=_;rw[if_pos ⟨m,a,z⟩];exact y
 have e:(if ∃m∈log,m.blk k then w.heap[k]?else none)=some o:=e;split at e
 ·rename_i q;exact⟨e,q⟩
 simp at e
end
end
section
theorem qkn (x a s:Int):qm (qm x a) s=qm (qm x s) a:=by unfold qm;repeat' split<;>omega
def dwV (W:WoS) (k j:Nat):V4:=⟨qm (swV W k j).v0 (W.S k).a0,qm (swV W k j).v1 (W.S k).a1,qm (swV W k j).v2 (W.S k).a2,qm (swV W k j).v3 (W.S k).a3⟩
variable {W:WoS} {k j:Nat}
theorem q9r (h:W.at_ j=k/\(W.ses j).opn=true):dwV W k (j+1)=⟨qm (dwV W k j).v0 (W.ses j).s0,qm (dwV W k j).v1 (W.ses j).s1,qm (dwV W k j).v2 (W.ses j).s2,qm (dwV W k j).v3 (W.ses j).s3⟩:=by
 have e:swV W k (j+1)=⟨qm (swV W k j).v0 (W.ses j).s0,qm (swV W k j).v1 (W.ses j).s1,qm (swV W k j).v2 (W.ses j).s2,qm (swV W k j).v3 (W.ses j).s3⟩:=if_pos h;unfold dwV;rw[e,qkn,qkn _ (W.S k).a1,qkn _ (W.S k).a2,qkn _ (W.S k).a3]
theorem q49 (h:¬(W.at_ j=k/\(W.ses j).opn=true)):dwV W k (j+1)=dwV W k j:=by
 have e:swV W k (j+1)=swV W k j:=if_neg h;unfold dwV;rw[e]
noncomputable def q9m:Code:=((Tryz.f40.body.bind (qa0 1)).getD .skip)
theorem qv4 {b:Nat} {M:RoM} {Gs:Nat->Nat->Prop} {i:Nat} {u v y5 x y z B C D E F G y15 y16 y17 y18 y19 y20 y21 y22 y23 y24 y25 y26 H I J K L N O P Q X Y Z aa ab ac ad ae af ag ah ai aj ak al am an ao ap aq ar au av aw ax ay az aA:Value} (w:World) (h:RWo w b M W Gs) (hi:i<W.n) (R:Act->World->Prop)
 (hR:∀(u15 u16 u17 u18 u19 u20 u21 u22 u23 u24 u25 u26:Value) (d:Nat) (f:World),qd f d (v4C (dwV W i 0))->Bw w f->w.heap.size<=d->R ⟨List.toArray ((PP b)::(U i)::u::v::(PP (M.bp i))::(PP d)::x::y::z::B::C::D::E::F::G::u15::u16::u17::u18::u19::u20::u21::u22::u23::u24::u25::u26::H::I::J::K::L::N::O::P::Q::X::Y::Z::aa::ab::ac::ad::ae::af::ag::ah::ai::aj::ak::al::am::an::ao::ap::aq::ar::au::av::aw::ax::ay::az::aA::[]),[]⟩ f):
 Code.wp Tryz.prog q9m (Exit.then R (λ_ _ _=>False)) ⟨List.toArray ((PP b)::(U i)::u::v::(PP (M.bp i))::y5::x::y::z::B::C::D::E::F::G::y15::y16::y17::y18::y19::y20::y21::y22::y23::y24::y25::y26::H::I::J::K::L::N::O::P::Q::X::Y::Z::aa::ab::ac::ad::ae::af::ag::ah::ai::aj::ak::al::am::an::ao::ap::aq::ar::au::av::aw::ax::ay::az::aA::[]),[]⟩ w:=by
 have HR:Hid _:=hR;clear hR;obtain⟨g,cap,c0,hcap,hg,hc⟩:=h.sitesAt hi;obtain⟨V,q⟩:∃V,qj (W.S i) (jw W.n)=V:=⟨_,rfl⟩
 have ST:=hd1 (λw' r=>by
  have:=qug (W.n:Int) w' ((h.later r).site hi);rw[q]at this
  exact this)
 have HV:Hid (∀f d,qd f d (v4C ⟨qm V.v0 (W.S i).a0,qm V.v1 (W.S i).a1,qm V.v2 (W.S i).a2,qm V.v3 (W.S i).a3⟩)->qd f d (v4C (dwV W i 0))):=λf d hr=>by
  have:dwV W i 0=⟨qm V.v0 (W.S i).a0,qm V.v1 (W.S i).a1,qm V.v2 (W.S i).a2,qm V.v3 (W.S i).a3⟩:=by
   show (⟨qm (qj (W.S i) (jw W.n)).v0 _,_,_,_⟩:V4)=_;rw[<-q];rfl
  rw[this];exact hr
 have HA:Hid (∀w',Bw w w'->w'.cell? (AD (M.bp i) 1)=some (U (W.S i).a0)/\w'.cell? (AD (M.bp i) 2)=some (U (W.S i).a1)/\w'.cell? (AD (M.bp i) 3)=some (U (W.S i).a2)/\w'.cell? (AD (M.bp i) 4)=some (U (W.S i).a3)/\M.bp i<w'.heap.size):=λw' r=>((h.later r).site hi).applied;obtain⟨a0,a1,a2,a3,hbl⟩:=(h.site hi).applied;have hlt:=h.box.lt;clear h hc q
 conv=>arg 2;whnf
 go_region_law (first
  |(refine qah rfl 87 rfl #[PP (M.bp i),U W.n] (by go_simp) (ST.out w.drew (jcc _ w).drew) ?_
    rintro e w2 ⟨rfl,p⟩;refine⟨_,rfl,?_⟩;have l:=qa (jcc _ w).drew p
    obtain⟨d0,d1,d2,d3,dl⟩:=HA.out w2 l)
  |(refine qah rfl 87 rfl #[PP (M.bp i),U W.n] (by go_simp) (ST.out (w.drew.alloc (.cells #[U 0,U 0,U 0,U 0] 77)) (boxed (jcc _ w).drew (.cells #[U 0,U 0,U 0,U 0] 77))) ?_
    rintro e w2 ⟨rfl,p⟩;refine⟨_,rfl,?_⟩;have l:=qa (boxed (jcc _ w).drew (.cells #[U 0,U 0,U 0,U 0] 77)) p;have RX:=(qd.new (w:=w.drew) (T:=77) (n:=w.heap.size) [U 0,U 0,U 0,U 0] rfl).later p
    obtain⟨d0,d1,d2,d3,dl⟩:=HA.out w2 l)
  |(refine qah rfl 86 rfl #[.agg #[U V.v0,U V.v1,U V.v2,U V.v3],.agg #[U ((W.S i).a0),U ((W.S i).a1),U ((W.S i).a2),U ((W.S i).a3)]] (by go_simp) (qgh _ _ _ _ _ _ _ _ w2) ?_
    rintro e s ⟨rfl,m⟩;refine⟨_,rfl,?_⟩;have a:=RX.later m;have o:=qa l m;have t:w.heap.size<=w.heap.size:=jcd _;obtain⟨f0,f1,f2,f3⟩:=a.f4;have y_0:=a.c 0;have y_1:=a.c 1;have y_2:=a.c 2
    have y_3:=a.c 3)
  |(refine qah rfl 86 rfl #[.agg #[U V.v0,U V.v1,U V.v2,U V.v3],.agg #[U ((W.S i).a0),U ((W.S i).a1),U ((W.S i).a2),U ((W.S i).a3)]] (by go_simp) (qgh _ _ _ _ _ _ _ _ w2) ?_
    rintro e s ⟨rfl,m⟩;refine⟨_,rfl,?_⟩
    have o:=qa l m)
  |(refine qah rfl 86 rfl #[.agg #[U V.v0,U V.v1,U V.v2,U V.v3],.agg #[U ((W.S i).a0),U ((W.S i).a1),U ((W.S i).a2),U ((W.S i).a3)]] (by go_simp) (qgh _ _ _ _ _ _ _ _ (w2.alloc (.cells #[U 0,U 0,U 0,U 0] 77))) ?_
    rintro e s ⟨rfl,m⟩;refine⟨_,rfl,?_⟩;have a:=(qd.new (w:=w2) (T:=77) (n:=w2.heap.size) [U 0,U 0,U 0,U 0] rfl).later m;have o:=qa (boxed l (.cells #[U 0,U 0,U 0,U 0] 77)) m;have t:=l.size;obtain⟨f0,f1,f2,f3⟩:=a.f4;have y_0:=a.c 0;have y_1:=a.c 1;have y_2:=a.c 2
    have y_3:=a.c 3))
 all_goals
  first
   |(go_simp
     refine HR.out _ _ _ _ _ _ _ _ _ _ _ _ _ _ (HV.out _ _ (qmu a _ _ _ _)) (qe8 o t _ _ _ _) t)
   |(go_simp
     exact HR.out _ _ _ _ _ _ _ _ _ _ _ _ _ _ (HV.out _ _ (qd.new (w:=s) (T:=77) (v4C ⟨qm V.v0 (W.S i).a0,qm V.v1 (W.S i).a1,qm V.v2 (W.S i).a2,qm V.v3 (W.S i).a3⟩) rfl)) (boxed o _) o.size)
end
section
variable {b:Nat} {wv:Value} {s:qy}
theorem q9f {w w2:World} {c:Value} (d:Bw w w2) (B:qd w2 b (jr s c)) (x0 x1 x2 x3:Int):
 qep w b wv ⟨x0,x1,x2,x3,false,0,0,0,0,[]⟩ ((((((((((w2.setCell (AD b 0) (U x0)).setCell (AD b 1) (U x1)).setCell (AD b 2) (U x2)).setCell (AD b 3) (U x3)).setCell (AD b 8) (.bool false)).setCell (AD b 4) (U 0)).setCell (AD b 5) (U 0)).setCell (AD b 6) (U 0)).setCell (AD b 7) (U 0)).setCell (AD b 9) (.slice none 0 0)):=by
 have e:=B.set 0 (U x0) (by simp[jr]);have f:=e.set 1 (U x1) (by simp[jr]);have g:=f.set 2 (U x2) (by simp[jr]);have h:=g.set 3 (U x3) (by simp[jr]);have i:=h.set 8 (.bool false) (by simp[jr]);have j:=i.set 4 (U 0) (by simp[jr]);have l:=j.set 5 (U 0) (by simp[jr]);have m:=l.set 6 (U 0) (by simp[jr]);have n:=m.set 7 (U 0) (by simp[jr]);have o:=n.set 9 (.slice none 0 0) (by simp[jr]);refine qvt d (λk a=>?_) ?_ ?_ ?_ ?_ o rfl
 ·rw[jce _ _ _ _ a,jce _ _ _ _ a,jce _ _ _ _ a,jce _ _ _ _ a,jce _ _ _ _ a,jce _ _ _ _ a,jce _ _ _ _ a,jce _ _ _ _ a,jce _ _ _ _ a,jce _ _ _ _ a]
 ·simp only[World.setCell]
 ·simp only[World.setCell]
 ·simp only[World.setCell]
 simp only[World.setCell,Array.size_modify,jcd]
theorem qiv (w:World) (h:qgs w b wv s):
 Ca 35 #[PP b] w λe w'=>e=.returned (U (qi5 s))/\qep w b wv (qhh s) w':=by
 have g:=hd1 h;have i:=h.box.c 8;cases ho:s.opn
 ·rw[ho]at i;have f:Hid (qi5 s=6/\qhh s=s):=⟨by unfold qi5;rw[ho];rfl,by unfold qhh;rw[ho];rfl⟩;go_enter Tryz.func35,Tryz.ntmps35
  go_wp2_with fail
  go_ret;refine⟨by rw[f.out.1];rfl,?_⟩;rw[f.out.2];exact qep.same g.out (jcc _ _)
 rw[ho]at i;have f:Hid (qi5 s=0/\qhh s=qc3 s):=⟨by unfold qi5;rw[ho];rfl,by unfold qhh;rw[ho];rfl⟩;have j:Bw w w.drew:=(jcc _ w).drew;have d:=h.box.later j;go_enter Tryz.func35,Tryz.ntmps35
 go_wp2_with fail
 have m:=d.c 0;have n:=d.c 1;have o:=d.c 2;have p:=d.c 3;have q:=d.c 4;have r:=d.c 5;have t:=d.c 6;have u:=d.c 7
 go_region_law (refine je rfl 83 #[.agg #[U s.p0,U s.p1,U s.p2,U s.p3],.agg #[U s.s0,U s.s1,U s.s2,U s.s3]] (by go_simp) (qp0 s.p0 s.p1 s.p2 s.p3 s.s0 s.s1 s.s2 s.s3 _) ?_
                rintro e v ⟨rfl,l⟩;refine⟨_,rfl,?_⟩;have k:=qa j l;have a:=g.out.box.later k;have x:=a.c 0;have y:=a.c 1;have z:=a.c 2;have B:=a.c 3;have C:=a.c 4;have D:=a.c 5;have E:=a.c 6;have F:=a.c 7;have G:=a.c 8;have H:=a.c 9;have I:=a.free 0 (by simp[jr]);have f1:=a.free 1 (by simp[jr]);have J:=a.free 2 (by simp[jr]);have K:=a.free 3 (by simp[jr]);have L:=a.free 4 (by simp[jr]);have M:=a.free 5 (by simp[jr]);have N:=a.free 6 (by simp[jr]);have O:=a.free 7 (by simp[jr]);have P:=a.free 8 (by simp[jr])
                have Q:=a.free 9 (by simp[jr]))
 all_goals
  go_wp2_with fail
  go_ret;refine⟨by rw[f.out.1];rfl,?_⟩;rw[f.out.2];exact q9f k a _ _ _ _
end
section
variable {b:Nat}
theorem qb9 {tmps:Array Value} {w:World} {x0 x1 x2 x3 d e f g ev:Int} {a:Option Addr} {n c:Nat} (h:qd w b (T9 x0 x1 x2 x3 d e f g a n c)) (i:tmps[6]?=some (PP b)) (j:tmps[7]?=some (U ev)):
 (results Tryz.f81 tmps).run Tryz.prog w=.ok (.tuple #[.agg (List.toArray (T9 x0 x1 x2 x3 d e f g a n c)),U ev]) w:=by
 obtain⟨k,l,m,o,p,q,r,s,t⟩:=h.c9;simp[results,Tryz.results81,go_sem,i,j,k,l,m,o,p,q,r,s,t]
theorem qmi {I:Nat} {G Gx:Nat->Prop} {F:Nat->Option Obj} {s:qy} {S:qe} (now:Int) (w:World) (h:RSe w b G s) (hS:RS w I Gx F S) (hI:j3 S) (hd:∀k,G k->¬Gx k) (hp:0<=s.p0):
 Ca 81 #[PP b,PP I,U now] w (q6u w b I G Gx F S s now):=by
 have f:=hd7 h hS hI hd hp h.lt hS.lt;obtain⟨wv,h0,hG⟩:=h;have Q:=hd1 hG;have HS:=hd1 h0;have hb1:=boxed (jcc _ w) (.cells ZA 102);have RT:=qd.new (w:=w) (T:=102) ZL rfl;change qd (w.nu ZA 102) w.heap.size ZL at RT;have B1:=h0.box.later hb1;have k8:=B1.c 8;cases ho:s.opn
 ·rw[ho]at k8;have r:Hid (qeg S s now=6/\qce S s now=tx0.t/\qcc S s now=S/\j0 S s now=s):=qmm ho;go_enter Tryz.func81,Tryz.ntmps81
  go_wp2_with fail
  refine bodyPost_ret (qb9 RT rfl rfl) rfl ⟨tx0,by rw[r.out.1];rfl,r.out.2.1.symm,qk4 _,?_⟩;rw[r.out.2.2.1,r.out.2.2.2];exact⟨F,⟨λ_ _ e=>e,λk i=>absurd i (qfb k)⟩,qod (p:=qjd b s) (q:=qek I F S) f.out.1 f.out.2.1 f.out.2.2.2.1 hb1 _ qfb⟩
 rw[ho]at k8;have M:=hd1 ho;have hb2:=boxed hb1 (.cells ZA 102);have AL:=qp1 ((w.nu ZA 102).nu ZA 102) (h0.later hb2);have RT2:=RT.boxed (.cells ZA 102);have RX2:=qd.new (w:=(w.nu ZA 102)) (T:=102) (n:=w.heap.size+1) ZL (by simp);change qd ((w.nu ZA 102).nu ZA 102) (w.heap.size+1) ZL at RX2;go_enter Tryz.func81,Tryz.ntmps81
 go_wp2_with fail
 refine AL.mono ?_;rintro e wA ⟨v,rfl,ownv,hbv⟩;obtain⟨va,vc,rfl,hWv⟩:=qbg ownv
 have HNA:Hid (∀k off,(jh s.ws)≠[]->va=some (AD k off)->w.heap.size+2<=k):=λk off hne e=>by
  have:=ownv.form (List.length_pos_iff.2 hne);obtain⟨g,cc,e1,e2,e3⟩:=this;injection e1 with e1;rw[e1]at e;injection e with e;injection e with e;simp at e2;omega
 have Z:=qa hb2 hbv;have RTA:=RT2.later hbv;have RXA:=RX2.later hbv
 have HSZ:Hid (w.heap.size+2<=wA.heap.size):=by have:=hbv.size;simp at this;exact this
 have HWV:=hd1 hWv;have hcl:=hWv.len;have hcc:=hWv.cap
 have HN2:Hid (∀k,(k=w.heap.size\/k=w.heap.size+1)->w.heap.size<=k/\k<wA.heap.size):=λk e=>by
  have:=HSZ.out
  rcases e with e|e<;>omega
 by_cases hl:(jh s.ws).length=0
 ·have r:Hid (qeg S s now=0/\qce S s now=tx0.t/\qcc S s now=S/\j0 S s now=qc3 s):=qml M.out hl
  have l0:¬(0:Int)<((jh s.ws).length:Int):=by omega
  have AB:=qiv wA (HS.out.later Z)
  go_wp2_with fail
  refine AB.mono ?_;rintro e wD ⟨rfl,R⟩;rw[show qhh s=qc3 s by unfold qhh;rw[if_neg (by rw[M.out];decide)]]at R;rw[show qi5 s=0 by unfold qi5;rw[if_neg (by rw[M.out];decide)]];have HPO:=hd1 R;obtain⟨wv',hs',_,K⟩:=R
  have V:∀k,w.heap.size<=k->¬(k=b\/wv.ownBlock=some k):=λk i e=>by have:=f.out.2.2.2.2.2.1 k ((Q.out k).2 e);omega
  have RTD:=RTA.kept (K.block _ RTA.lt (V _ (jcd _))) K.size;have N:=RXA.kept (K.block _ RXA.lt (V _ (Nat.le_succ _))) K.size;have x0:=qb.cell (N.c 0);have x1:=qb.cell (N.c 1);have y0:∀x:qb wD,x.val.cell? (AD b 0)=some (U (jd s.p0 s.s0)):=qb.cell (hs'.box.c 0);have hne:=qb.one;have g0:decide (jd s.p0 s.s0<0)=false:=decide_eq_false (by have:=f.out.2.2.2.2.1;unfold jd;split<;>omega)
  go_wp2_with fail
  refine wrl ?_
  repeat (go_big_quiet_step (first|rfl|fail))
  refine wpQuiet_nil ?_;rintro w3 ⟨⟨_,H⟩,rfl⟩;have RTF:=RTD.later H;have RXF:=N.later H;obtain⟨x0,x1,x2,x3,x4,x5,x6,x7,x8⟩:=RXF.c9;obtain⟨r0,r1,r2,r3,r4,r5,r6,r7,r8⟩:=RTF.c9;obtain⟨p0,p1,p2,p3,p4,p5,p6,p7,p8⟩:=RTF.f9;have W:=yz RTF rfl 0 0 0 0 0 0 0 0 (.slice none 0 0);have L:=qid (p:=qjd b (qc3 s)) (q:=qek I F S) (Y:=tx0.blk) f.out.2.2.2.2.2.1 f.out.2.2.2.2.2.2 f.out.2.2.2.1 Z HN2.out (RPo.same (f.out.2.1.later Z) (jcc _ _)) (λk i=>absurd i (qfb k)) (qc.ofBelow (jcc _ _)) ((HPO.out.after H).left Q.out) (qaz (b:=w.heap.size) (qc.ofBelow (jcc _ w3)) (.inl rfl) 0 0 0 0 0 0 0 0 (.slice none 0 0))
  go_wp2_with fail
  refine bodyPost_ret (qb9 W rfl rfl) rfl ⟨tx0,by rw[r.out.1];rfl,r.out.2.1.symm,qk4 _,?_⟩;rw[r.out.2.2.1,r.out.2.2.2];exact⟨F,⟨λ_ _ e=>e,λk i=>absurd i (qfb k)⟩,L.1⟩
 have X:Hid (qeg S s now=qfl S now s.s0 s.s1 s.s2 s.s3 (jh s.ws)/\qce S s now=qha S now s.s0 s.s1 s.s2 s.s3 (jh s.ws)/\qcc S s now=qf3 S now s.s0 s.s1 s.s2 s.s3 (jh s.ws)):=qjx M.out hl;have HLN:Hid ((jh s.ws).length≠0):=hl
 have l0:(0:Int)<((jh s.ws).length:Int):=by omega
 have CM:=qwq now s.s0 s.s1 s.s2 s.s3 wA (f.out.2.1.later Z) f.out.2.2.1 HWV.out (λk off e1 e2 hg=>by have:=HNA.out k off e1 e2;have:=f.out.2.2.2.2.2.2 k hg;omega);have BA:=HS.out.box.later Z;have c4:=BA.c 4;have c5:=BA.c 5;have c6:=BA.c 6;have c7:=BA.c 7;have HBA:=hd1 Z;obtain⟨⟨a,d,u,y,z,B,C,E,j⟩,hct⟩:∃t,qha S now s.s0 s.s1 s.s2 s.s3 (jh s.ws)=t:=⟨_,rfl⟩;obtain⟨ce,hce⟩:∃ce,qfl S now s.s0 s.s1 s.s2 s.s3 (jh s.ws)=ce:=⟨_,rfl⟩
 go_wp2_with fail
 refine CM.mono ?_;rintro e wB ⟨⟨mt,l,o⟩,rfl,hmt,hh,hnew⟩;rw[hct]at hmt;simp only at hmt;subst hmt;rw[hce,show txV ⟨⟨a,d,u,y,z,B,C,E,j⟩,l,o⟩=.agg (List.toArray (T9 a d u y z B C E l j.length o))from rfl];obtain⟨hWB,F',hFE,hPB⟩:=hh.out;have HFE:=hd1 hFE;have J:=hd3 hPB (show qr wB l o j from hWB) hnew;obtain⟨H1,_,_,tB⟩:=hPB
 have nX:∀k,w.heap.size<=k->¬Gx k:=λk i e=>by have:=f.out.2.2.2.2.2.2 k e;omega
 have RTB:=RTA.kept (tB.block _ RTA.lt (nX _ (jcd _))) tB.size;have RXB:=RXA.kept (tB.block _ RXA.lt (nX _ (Nat.le_succ _))) tB.size;obtain⟨x0,x1,x2,x3,x4,x5,x6,x7,x8⟩:=RXB.c9;obtain⟨q0,q1,q2,q3,q4,q5,q6,q7,q8⟩:=RXB.f9;have RXC:=yz RXB rfl a d u y z B C E (.slice l j.length o);have RTC:=qtu RTB (by omega:w.heap.size≠w.heap.size+1) a d u y z B C E (.slice l j.length o);have TC:qc (λk=>k=w.heap.size\/k=w.heap.size+1) wB (js wB (w.heap.size+1) a d u y z B C E (.slice l j.length o)):=qaz (qc.ofBelow (jcc _ wB)) (.inr rfl) a d u y z B C E (.slice l j.length o);obtain⟨WC,hWC⟩:∃WC,js wB (w.heap.size+1) a d u y z B C E (.slice l j.length o)=WC:=⟨_,rfl⟩;rw[hWC]at RXC RTC TC;simp only[js]at hWC
 have hsC:qgs WC b wv s:=by
  have mid:=qz8 (q:=qek I F' (qf3 S now s.s0 s.s1 s.s2 s.s3 (jh s.ws))) f.out.2.2.2.2.2.1 f.out.2.2.2.1 HBA.out HN2.out J.out.1 TC;exact HS.out.keptB (λk e=>mid.1 k ((Q.out k).2 e)) mid.2
 have V:∀k,w.heap.size<=k->¬(k=b\/wv.ownBlock=some k):=λk i e=>by have:=f.out.2.2.2.2.2.1 k ((Q.out k).2 e);omega
 by_cases hE:ce=0
 ·subst hE
  have r:Hid (j0 S s now=atLeast a d (qc3 s)/\a=S.id):=by
   have:=qrv (S:=S) (s:=s) (now:=now) M.out HLN.out hce;rw[hct]at this;exact this
  have O:=hd2 (X.out.1.trans hce) (X.out.2.1.trans hct)
  have i0:0<=a:=by rw[r.out.2];exact f.out.2.2.1.id0
  have i3:a<=3:=by rw[r.out.2];exact f.out.2.2.1.id3
  have i4:a<4:=by omega
  have AB:=qiv WC hsC
  go_wp2_with (rw[hWC])
  refine AB.mono ?_;rintro e wD ⟨rfl,R⟩;rw[show qhh s=qc3 s by unfold qhh;rw[if_neg (by rw[M.out];decide)]]at R;rw[show qi5 s=0 by unfold qi5;rw[if_neg (by rw[M.out];decide)]];have HPO:=hd1 R;obtain⟨wv',hs',_,K⟩:=R;have RTD:=RTC.kept (K.block _ RTC.lt (V _ (jcd _))) K.size;have N:=RXC.kept (K.block _ RXC.lt (V _ (Nat.le_succ _))) K.size;obtain⟨D,hD⟩:∃D,qp a (qc3 s).p0 (qc3 s).p1 (qc3 s).p2 (qc3 s).p3=D:=⟨_,rfl⟩;have HB':=hd1 hs'.box
  have HPA:Hid ((jr (qc3 s) wv')[a.toNat]?=some (U D)):=by show _=_;rw[q86 i0 i3,hD]
  have HD:=hd1 hD;have x0:=qb.cell (N.c 0);have x1:=qb.cell (N.c 1);have y0:=qb.cell (HB'.out.cell _ _ HPA.out);have hne:=qb.one;by_cases hlt:D<d
  ·have HS2:Hid (j0 S s now=qnk a.toNat d (qc3 s)):=by show _=_;rw[r.out.1,qlh i0 i3,HD.out,qia hlt]
   go_wp2_with fail
   refine wrl ?_
   repeat (go_big_quiet_step (first|rfl|fail))
   refine wpQuiet_nil ?_;rintro w3 ⟨⟨_,H⟩,rfl⟩;have B3:=HB'.out.later H;have RT3:=RTD.later H;have RX3:=N.later H;have x0:=RX3.c 0;have x1:=RX3.c 1;have y0:=B3.cell _ _ HPA.out;have g0:=B3.free a.toNat (by simp[jr];omega)
   go_wp2_with fail
   go_region
   all_goals
        have P4:=((HPO.out.after H).past (n:=a.toNat) (by omega) d).after ((jcc _ (w3.setCell (AD b a.toNat) (U d))).drew);have bne:b≠w.heap.size:=λe=>V b (by omega) (.inl rfl);have bne1:b≠w.heap.size+1:=λe=>V b (by omega) (.inl rfl);have P:=(RT3.far (AD b a.toNat) (U d) bne).drew;have RX4:=(RX3.far (AD b a.toNat) (U d) bne1).drew;obtain⟨W4,hW4⟩:∃W4,(w3.setCell (AD b a.toNat) (U d)).drew=W4:=⟨_,rfl⟩;rw[hW4]at P4 P RX4
        (try rw[hW4])
        obtain⟨x0,x1,x2,x3,x4,x5,x6,x7,x8⟩:=RX4.c9;obtain⟨r0,r1,r2,r3,r4,r5,r6,r7,r8⟩:=P.c9;obtain⟨p0,p1,p2,p3,p4,p5,p6,p7,p8⟩:=P.f9;have W:=yz P rfl a d u y z B C E (.slice l j.length o);have L:=qid (p:=qjd b (qnk a.toNat d (qc3 s))) (q:=qek I F' (qf3 S now s.s0 s.s1 s.s2 s.s3 (jh s.ws))) (Y:=(⟨⟨a,d,u,y,z,B,C,E,j⟩,l,o⟩:TxM).blk) f.out.2.2.2.2.2.1 f.out.2.2.2.2.2.2 f.out.2.2.2.1 HBA.out HN2.out J.out.1 (λk i=>⟨J.out.2.2 k i,qr.blk_lt (m:=(⟨⟨a,d,u,y,z,B,C,E,j⟩,l,o⟩:TxM)) J.out.2.1 k i⟩) TC (P4.left Q.out) (qaz (b:=w.heap.size) (qc.ofBelow (jcc _ W4)) (.inl rfl) a d u y z B C E (.slice l j.length o));have WF:=qr.kept (m:=(⟨⟨a,d,u,y,z,B,C,E,j⟩,l,o⟩:TxM)) J.out.2.1 (λk i=>L.2 k i)
        go_wp2_with (rw[hW4])
        refine bodyPost_ret (qb9 W rfl rfl) rfl ⟨(⟨⟨a,d,u,y,z,B,C,E,j⟩,l,o⟩:TxM),by rw[O.out.1];rfl,O.out.2.symm,WF,?_⟩;rw[X.out.2.2,HS2.out];exact⟨F',HFE.out,L.1⟩
  have HS2:Hid (j0 S s now=qc3 s):=by show _=_;rw[r.out.1,qwy i0 i3 (by rw[HD.out];exact hlt)]
  go_wp2_with fail
  refine wrl ?_
  repeat (go_big_quiet_step (first|rfl|fail))
  refine wpQuiet_nil ?_;rintro w3 ⟨⟨_,H⟩,rfl⟩;have P4:=HPO.out.after H;have P:=RTD.later H;have RX4:=N.later H;obtain⟨x0,x1,x2,x3,x4,x5,x6,x7,x8⟩:=RX4.c9;obtain⟨r0,r1,r2,r3,r4,r5,r6,r7,r8⟩:=P.c9;obtain⟨p0,p1,p2,p3,p4,p5,p6,p7,p8⟩:=P.f9;have W:=yz P rfl a d u y z B C E (.slice l j.length o);have L:=qid (p:=qjd b (qc3 s)) (q:=qek I F' (qf3 S now s.s0 s.s1 s.s2 s.s3 (jh s.ws))) (Y:=(⟨⟨a,d,u,y,z,B,C,E,j⟩,l,o⟩:TxM).blk) f.out.2.2.2.2.2.1 f.out.2.2.2.2.2.2 f.out.2.2.2.1 HBA.out HN2.out J.out.1 (λk i=>⟨J.out.2.2 k i,qr.blk_lt (m:=(⟨⟨a,d,u,y,z,B,C,E,j⟩,l,o⟩:TxM)) J.out.2.1 k i⟩) TC (P4.left Q.out) (qaz (b:=w.heap.size) (qc.ofBelow (jcc _ w3)) (.inl rfl) a d u y z B C E (.slice l j.length o));have WF:=qr.kept (m:=(⟨⟨a,d,u,y,z,B,C,E,j⟩,l,o⟩:TxM)) J.out.2.1 (λk i=>L.2 k i)
  go_wp2_with fail
  refine bodyPost_ret (qb9 W rfl rfl) rfl ⟨(⟨⟨a,d,u,y,z,B,C,E,j⟩,l,o⟩:TxM),by rw[O.out.1];rfl,O.out.2.symm,WF,?_⟩;rw[X.out.2.2,HS2.out];exact⟨F',HFE.out,L.1⟩
 have r:=hd1 (qp7 M.out HLN.out (by rw[hce];exact hE));have O:=hd3 (X.out.1.trans hce) (X.out.2.1.trans r.out.2.2) (X.out.2.2.trans r.out.2.1)
 have HPS:Hid (RPo wA I Gx F' S wB):=by have:=J.out.1;rw[r.out.2.1]at this;exact this
 have W:=yz RTC rfl 0 0 0 0 0 0 0 0 (.slice none 0 0);have L:=qid (p:=qjd b s) (q:=qek I F' S) (Y:=tx0.blk) f.out.2.2.2.2.2.1 f.out.2.2.2.2.2.2 f.out.2.2.2.1 HBA.out HN2.out HPS.out (λk i=>absurd i (qfb k)) TC ((qep.same hsC (jcc _ _)).left Q.out) (qaz (b:=w.heap.size) (qc.ofBelow (jcc _ WC)) (.inl rfl) 0 0 0 0 0 0 0 0 (.slice none 0 0));obtain⟨r0,r1,r2,r3,r4,r5,r6,r7,r8⟩:=RTC.c9;obtain⟨p0,p1,p2,p3,p4,p5,p6,p7,p8⟩:=RTC.f9
 go_wp2_with (rw[hWC])
 refine bodyPost_ret (qb9 W rfl rfl) rfl ⟨tx0,by rw[O.out.1];rfl,O.out.2.1.symm,qk4 _,?_⟩;rw[r.out.1,O.out.2.2];exact⟨F',⟨HFE.out.1,λk i=>absurd i (qfb k)⟩,L.1⟩
end
theorem q3y:(Tryz.prog.info? 167).map (λi=>(i.zero,i.size,i.bytes))=some (some (.agg #[.pointer none,U 0]),2,16):=by kernel_rfl
theorem qxk:(Tryz.prog.info? 171).map (λi=>(i.zero,i.size,i.bytes))=some (some (.agg #[.pointer none,U 0]),2,16):=by kernel_rfl
def q9t:WoM:=⟨.slice none 0 0,.slice none 0 0,.slice none 0 0,λ_=>0,λ_=>0,[]⟩
theorem q3a (w:World) (T:TypeId):PWo (w.alloc (.cells #[.slice none 0 0,.slice none 0 0,.slice none 0 0,U 0] T)) w.heap.size q9t (qcb 0 0) (λ_ _=>False):=by
 refine⟨qd.new (w:=w) (T:=T) [.slice none 0 0,.slice none 0 0,.slice none 0 0,U 0] rfl,jcx _ _ _ _,jcx _ _ _ _,jcx _ _ _ _,rfl,λm a=>(by cases a),⟨λi hi=>by simp[qcb]at hi,λi j k hi=>by simp[qcb]at hi,λk b=>?_,λk b=>b.elim⟩,⟨λe=>(by cases e),λe=>(by cases e),λe=>(by cases e)⟩,λk=>⟨λe=>(by cases e),λe=>(by cases e)⟩,λm a=>(by cases a)⟩;rcases b with e|e|e|e|⟨m,a,_⟩
 ·exact⟨by rw[e];simp,λi hi=>by simp[qcb]at hi⟩
 ·cases e
 ·cases e
 ·cases e
 cases a
theorem jbh (w:World):∀k,qfw w.heap.size q9t k->w.heap.size<=k:=λk a=>by
 rcases a with e|e|e|e|⟨m,b,_⟩
 ·omega
 ·cases e
 ·cases e
 ·cases e
 cases b
structure qur (w:World) (M:WoM) (W:WoS) (Gs:Nat->Nat->Prop) (wr:World):Prop where
 is:PWo wr w.heap.size M W Gs
 gs:∀j k,j<W.n+W.c->Gs j k->w.heap.size<=k
 ft:∀k,qfw w.heap.size M k->w.heap.size<=k
 nl:M.l=[]
 hb:Bw w wr
theorem jbc {n c:Nat} (V:1<=n) (h4:n<=4) (h6:c<=6) (w:World):
 Ca 65 #[U n,U c] w λe w'=>e=.returned (.tuple #[PP w.heap.size,.nilIface])/\∃G,PW w' w.heap.size G (qcb n c)/\(∀k,G k->w.heap.size<=k)/\Bw w w':=by
 obtain⟨i0,hi0,hz0,hz1,hz2⟩:=info_parts q3y;obtain⟨i5,hi5,hy0,hy1,hy2⟩:=info_parts qxk
 have q1:¬(n:Int)<1:=by omega
 have q2:¬4<(n:Int):=by omega
 have q3:¬(c:Int)<0:=by omega
 have q4:¬6<(c:Int):=by omega
 have C:=hd2 h4 h6;have N0:Hid (qur w q9t (qcb 0 0) (λ_ _=>False) (w.alloc (.cells #[.slice none 0 0,.slice none 0 0,.slice none 0 0,U 0] 162))):=⟨q3a w _,λ_ _ _ h=>h.elim,jbh w,rfl,boxed (jcc _ w) _⟩;clear V h4 h6;go_enter Tryz.func65,Tryz.ntmps65
 go_wp2_with fail
 clear q1 q2 q3 q4
 go_loopw [28] (λiv wr=>∃(k:Nat) (z:Int) (M:WoM) (d:Nat->Nat->Prop),k<=n/\z=k/\iv=U z/\Hid (qur w M (qcb k 0) d wr)) (λiv _=>n-(intOf iv).toNat)
 case atStart=>exact⟨0,0,q9t,_,by omega,rfl,rfl,N0.out⟩
 clear N0;obtain⟨k,z,M,d,hk,W,rfl,a⟩:=hrel;have R:=hd1 W;by_cases hlt:k<n
 ·have S:z<(n:Int):=by omega
  have g3:0<=z:=by omega
  have g4:z<4:=by have:=C.out;omega
  have NN:=q94 z wr g3 g4;obtain⟨pa,pc,hpv,r⟩:=qq a.out.is.pr;have hrl:=r.len;have hrc:=r.cap;have o:Hid (M.pv=.slice pa k pc):=hpv;clear W r hpv
  go_wp2_with fail
  refine NN.mono ?_;rintro e w2 ⟨rfl,E,b⟩;rw[R.out]at E;have HP2:=hd2 E b;have s:=boxed (jcc _ w2) (.cells #[PP (wr.heap.size+1),U 0] 167);have F:=qf a.out.is.pr (λq e=>b.block q (a.out.is.pr.lt q e).2);have D:=(a.out.is.box.later b).later s;rw[o.out]at F D;have c0:=(a.out.is.box.later b).c 0;rw[o.out]at c0;have hlw:=(a.out.is.box.later b).lt;clear NN E
  go_wp2_with (at_builtin;refine wpList_append_lies _ rfl (.tmp 43) (.tmp 46) 158 rfl 0 167 i0 (.agg #[.pointer none,U 0]) 2 16 Tryz.underlying158 hi0 hz0 hz1 hz2 rfl (by decide) (.slice pa k pc) k (zt M.bp (qcb k 0).wall k) rfl (F.alloc _) (AD w2.heap.size 0) 1 1 [PP (wr.heap.size+1),U 0] rfl rfl (World.news_of_block (heap_alloc_new w2 (.cells #[PP (wr.heap.size+1),U 0] 167))) (by intro u H;simp at H;rcases H with rfl|rfl<;>rfl) (by decide) (by have:=C.out;simp only[maxLen];omega) (by have:=C.out;omega) (jcw _) _ rfl ?_;intro i l t X v I Y;have J:qd t w.heap.size _:=D.grown v (λe=>a.out.is.sb.1 (by rw[o.out];exact e.symm));have e0:=J.c 0;have f0:=J.f 0)
  have K:=a.out.is.addSite rfl HP2.out.1 (by omega) (by omega) rfl b s X (by rw[o.out];exact v) (by rw[o.out];exact I) Y;have hsz:=a.out.hb.size
  have L:∀j q,j<(qcb (k+1) 0).n+(qcb (k+1) 0).c->(λj=>if j=k then (λq=>q=wr.heap.size+1\/q=wr.heap.size)else d j) j q->w.heap.size<=q:=λj q N e=>by
   have g:(if j=k then (λq=>q=wr.heap.size+1\/q=wr.heap.size)else d j) q:=e;by_cases O:j=k
   ·rw[if_pos O]at g
    rcases g with g|g<;>omega
   rw[if_neg O]at g;exact a.out.gs j q (by simp[qcb]at N ⊢;omega) g
  have P:∀q,qfw w.heap.size {M with pv:=.slice (PT i) (k+1) l,bp:=λj=>if j=k then wr.heap.size+1 else M.bp j} q->w.heap.size<=q:=λq e=>by
   rcases e with e|e|e|e|⟨m,hm,e⟩
   ·omega
   ·have g:i=q:=jcu e;rcases I with r|r
    ·exact a.out.ft q (.inr (.inl (by rw[o.out,<-g];exact r)))
    simp at r;have:=b.size;omega
   ·exact a.out.ft q (.inr (.inr (.inl e)))
   ·exact a.out.ft q (.inr (.inr (.inr (.inl e))))
   exact a.out.ft q (.inr (.inr (.inr (.inr ⟨m,hm,e⟩))))
  have Q:Bw w (t.setCell (AD w.heap.size 0) (.slice (PT i) (k+1) l)):=((qa (qa a.out.hb b) s).grown v (by have:=b.size;simp;omega) (λq e=>a.out.ft q (.inr (.inl (by rw[o.out];exact e))))).setCell (p:=AD w.heap.size 0) (jcd _) _;have Z:Hid (qur w {M with pv:=.slice (PT i) (k+1) l,bp:=λj=>if j=k then wr.heap.size+1 else M.bp j} (qcb (k+1) 0) (λj=>if j=k then (λq=>q=wr.heap.size+1\/q=wr.heap.size)else d j) (t.setCell (AD w.heap.size 0) (.slice (PT i) (k+1) l))):=⟨K,L,P,a.out.nl,Q⟩;clear K L P Q
  go_roundw
  case rel=>exact⟨k+1,z+1,_,_,by omega,by have:=R.out;omega,by go_num,Z.out⟩
  simp[intOf];have:=R.out;omega
 have S:¬z<(n:Int):=by omega
 have ek:k=n:=by omega
 subst ek;have H0:=a;clear W hlt R
 go_wp2_with fail
 clear S
 go_loopw [52] (λiv wr=>∃(m:Nat) (y:Int) (M:WoM) (d:Nat->Nat->Prop),m<=c/\y=m/\iv=U y/\Hid (qur w M (qcb k m) d wr)) (λiv _=>c-(intOf iv).toNat)
 case atStart=>exact⟨0,0,M,d,by omega,rfl,rfl,H0.out⟩
 clear H0 a;obtain⟨m,y,M,d,hm,hy,rfl,a⟩:=hrel;have HY:=hd1 hy;by_cases hml:m<c
 ·have S:y<(c:Int):=by omega
  have g3:0<=y:=by omega
  have g4:y<6:=by have:=C.out;omega
  obtain⟨ca,cc,hcv,r⟩:=qq a.out.is.cr;have hrl:=r.len;have hrc:=r.cap;have B:Hid (M.cv=.slice ca m cc):=hcv;have T:=a.out.is.box;rw[B.out]at T;have c1:=T.c 1;have hlw:=T.lt;have SN:Hid (Ca 118 #[] wr.drew λe w'=>e=.returned (PP wr.heap.size)/\PSe w' wr.heap.size (λk=>k=wr.heap.size) qez/\Bw wr w'):=(q2h wr.drew).mono λe w' ⟨V,h2,h3⟩=>⟨V,h2,qa (jcc _ wr).drew h3⟩;clear hy r hcv
  go_wp2_with fail
  go_region_law (first
   |(refine qah rfl 118 rfl #[] (by go_simp) SN.out ?_
     rintro e w2 ⟨rfl,E,b⟩;refine⟨_,rfl,?_⟩;have s:=boxed (jcc _ w2) (.cells #[PP wr.heap.size,U 0] 171);have F:=qf a.out.is.cr (λq e=>b.block q (a.out.is.cr.lt q e).2);rw[B.out]at F;have D:=T.later b;have k1:=D.c 1
     have hl2:=D.lt)
   |(refine step_append_lies _ rfl (.tmp 58) (.tmp 61) 159 rfl 0 171 i5 (.agg #[.pointer none,U 0]) 2 16 Tryz.underlying159 hi5 hy0 hy1 hy2 rfl (by decide) (.slice ca m cc) m (zt M.bs (λj=>((qcb k m).at_ j:Int)) m) (by simp[Act.eval]) (F.alloc _) (AD w2.heap.size 0) 1 1 [PP wr.heap.size,U 0] (by simp[Act.eval]) rfl (World.news_of_block (heap_alloc_new w2 (.cells #[PP wr.heap.size,U 0] 171))) (by intro u H;simp at H;rcases H with rfl|rfl<;>rfl) (by decide) (by have:=C.out;simp only[maxLen];omega) (by have:=C.out;omega) (jcw _) _ rfl ?_
     intro i l t X v I Y;have J:qd t w.heap.size _:=(D.later s).grown v (λe=>a.out.is.sb.2.1 (by rw[B.out];exact e.symm));have e0:=J.c 1
     have f0:=J.f 1))
  all_goals
   have K:=a.out.is.addSes E (jcd _) rfl b s X (by rw[B.out];exact v) (by rw[B.out];exact I) Y;have hsz:=a.out.hb.size;have s2:=b.size
   have L:∀j q,j<(qcb k (m+1)).n+(qcb k (m+1)).c->(λj=>if j=k+m then (λq=>q=wr.heap.size)else d j) j q->w.heap.size<=q:=λj q N e=>by
        have g:(if j=k+m then (λq=>q=wr.heap.size)else d j) q:=e;by_cases O:j=k+m
        ·rw[if_pos O]at g;omega
        rw[if_neg O]at g;exact a.out.gs j q (by simp[qcb]at N ⊢;omega) g
   have P:∀q,qfw w.heap.size {M with cv:=.slice (PT i) (m+1) l,bs:=λj=>if j=m then wr.heap.size else M.bs j} q->w.heap.size<=q:=λq e=>by
        rcases e with e|e|e|e|⟨x,hx,e⟩
        ·omega
        ·exact a.out.ft q (.inr (.inl e))
        ·have g:i=q:=jcu e;rcases I with r|r
         ·exact a.out.ft q (.inr (.inr (.inl (by rw[B.out,<-g];exact r))))
         simp at r;omega
        ·exact a.out.ft q (.inr (.inr (.inr (.inl e))))
        exact a.out.ft q (.inr (.inr (.inr (.inr ⟨x,hx,e⟩))))
   have Q:Bw w (t.setCell (AD w.heap.size 1) (.slice (PT i) (m+1) l)):=((qa (qa a.out.hb b) s).grown v (by simp;omega) (λq e=>a.out.ft q (.inr (.inr (.inl (by rw[B.out];exact e)))))).setCell (p:=AD w.heap.size 1) (jcd _) _;have Z:Hid (qur w {M with cv:=.slice (PT i) (m+1) l,bs:=λj=>if j=m then wr.heap.size else M.bs j} (qcb k (m+1)) (λj=>if j=k+m then (λq=>q=wr.heap.size)else d j) (t.setCell (AD w.heap.size 1) (.slice (PT i) (m+1) l))):=⟨K,L,P,a.out.nl,Q⟩;clear K L P Q
   go_wp2_with fail
   go_roundw
   case rel=>exact⟨m+1,y+1,_,_,by omega,by have:=HY.out;omega,by go_num,Z.out⟩
   simp[intOf];have:=HY.out;omega
 have S:¬y<(c:Int):=by omega
 have em:m=c:=by omega
 subst em;clear hy
 go_wp2_with fail
 go_ret2;exact⟨rfl,qmp w.heap.size M (k+m) d,⟨M,d,a.out.is,λ_=>jdl⟩,λq hq=>hq.elim (a.out.ft q) (λ⟨j,N,e⟩=>a.out.gs j q N e),a.out.hb⟩
section
open Tryz
theorem q3n:(prog.info? 75).map (λi=>(i.zero,i.size,i.bytes))=some (some (.pointer none),1,8):=by kernel_rfl
theorem q4m:(prog.info? 87).map (λi=>(i.zero,i.size,i.bytes))=some (some (.pointer none),1,8):=by kernel_rfl
theorem quc:(prog.info? 3).map (λi=>(i.zero,i.size,i.bytes))=some (some (U 0),1,8):=by kernel_rfl
variable {n:Nat}
theorem qry {w w':World} {B N:Nat} {T:TypeId} {v:Value} {xs:List Value} (h:w.ownsRow B T N v n xs) (a:Bw w w'):w'.ownsRow B T N v n xs:=qf h (λk e=>a.block k (h.lt k e).2)
theorem qo3 (a:n<=6) (w:World):(Instr.makeSlice 69 (U n) (U n)).run prog w=.ok (.slice (PT w.heap.size) n n) (w.alloc (.cells (madeCells #[U 0] n) 3)):=
 run_make_row' _ 3 (U 0) 8 underlying69 quc rfl .i64 .i64 n (by omega) (by omega) w
theorem ql9 (c:n<=6) (w:World):(w.alloc (.cells (madeCells #[U 0] n) 3)).ownsRow 0 3 1 (.slice (PT w.heap.size) n n) n (qdw (λ_=>0) n):=by
 obtain⟨d,hi,e,f,g⟩:=info_parts quc;obtain⟨h,a,b,_⟩:=run_make_full (P:=prog) w 0 69 3 d (U 0) 1 underlying69 hi e f .i64 .i64 n (by rw[g];omega) (by simp[maxLen];omega) (by omega);rw[qo3 c]at a;injection a with e1 e2;rw[<-e2,show (Value.int .i64 0).cells=#[Value.int .i64 0]from rfl,Nat.mul_one,toList_madeCells_one]at b;rw[show qdw (λ_=>0) n=List.replicate n (U 0) by unfold qdw;rw[List.map_const'];simp];exact b
theorem q42 {c:Nat} (h1:1<=n) (h4:n<=4) (h6:c<=6) (w:World):
 Ca 15 #[U n,U c] w λe w'=>e=.returned (.tuple #[PP (w.heap.size+1+1),U 0])/\∃G,RW w' (w.heap.size+1+1) G (qcb n c)/\(∀k,G k->w.heap.size<=k)/\Bw w w':=by
 obtain⟨i0,hi0,hz0,hz1,hz2⟩:=info_parts q3n;obtain⟨i5,hi5,hy0,hy1,hy2⟩:=info_parts q4m;have N:=qgy n 1 4 w;have O:=qgy c 0 6 w;rw[jk.2 (⟨by omega,by omega⟩:(1:Int)<=n/\(n:Int)<=4)]at N;rw[jk.2 (⟨by omega,by omega⟩:(0:Int)<=c/\(c:Int)<=6)]at O;have s:=hd2 h4 h6;have M1:=λw'=>qo3 (n:=n) (by omega) w';have M2:=λw'=>qo3 (n:=c) (by omega) w'
 have P:Hid (∃M b,qja w (w.heap.size+1+1) n c 0 0 M b ((((w.alloc (.cells (madeCells #[U 0] n) 3)).alloc (.cells (madeCells #[U 0] c) 3)).alloc (.cells #[.slice none 0 0,.slice (PT w.heap.size) n n,.slice none 0 0,.slice (PT (w.heap.size+1)) c c,.slice none 0 0,U 0] 74)).drew)):=by
  have Q:=boxed (jcc _ w) (.cells (madeCells #[U 0] n) 3);have t:=boxed (jcc _ (w.alloc (.cells (madeCells #[U 0] n) 3))) (.cells (madeCells #[U 0] c) 3);have l:=(boxed (jcc _ ((w.alloc (.cells (madeCells #[U 0] n) 3)).alloc (.cells (madeCells #[U 0] c) 3))) (.cells #[.slice none 0 0,.slice (PT w.heap.size) n n,.slice none 0 0,.slice (PT (w.heap.size+1)) c c,.slice none 0 0,U 0] 74)).drew;have R:=(qd.new (w:=(w.alloc (.cells (madeCells #[U 0] n) 3)).alloc (.cells (madeCells #[U 0] c) 3)) (T:=74) (n:=w.heap.size+1+1) [.slice none 0 0,.slice (PT w.heap.size) n n,.slice none 0 0,.slice (PT (w.heap.size+1)) c c,.slice none 0 0,U 0] (by simp)).drew;have S:=ql9 (n:=n) (by omega) w;have v:=ql9 (n:=c) (by omega) (w.alloc (.cells (madeCells #[U 0] n) 3));rw[jdi]at v;exact⟨_,_,qja.first R (qry (qry S t) l) (qry v l) (by omega) (by omega) (by omega) (jcd _) (by omega) (by omega) (qa (qa Q t) l)⟩
 have V:Hid (∃M b,qja w (w.heap.size+1+1) n c 0 0 M b ((((w.alloc (.cells (madeCells #[U 0] c) 3)).alloc (.cells (madeCells #[U 0] n) 3)).alloc (.cells #[.slice none 0 0,.slice (PT (w.heap.size+1)) n n,.slice none 0 0,.slice (PT w.heap.size) c c,.slice none 0 0,U 0] 74)).drew)):=by
  have Q:=boxed (jcc _ w) (.cells (madeCells #[U 0] c) 3);have t:=boxed (jcc _ (w.alloc (.cells (madeCells #[U 0] c) 3))) (.cells (madeCells #[U 0] n) 3);have l:=(boxed (jcc _ ((w.alloc (.cells (madeCells #[U 0] c) 3)).alloc (.cells (madeCells #[U 0] n) 3))) (.cells #[.slice none 0 0,.slice (PT (w.heap.size+1)) n n,.slice none 0 0,.slice (PT w.heap.size) c c,.slice none 0 0,U 0] 74)).drew;have R:=(qd.new (w:=(w.alloc (.cells (madeCells #[U 0] c) 3)).alloc (.cells (madeCells #[U 0] n) 3)) (T:=74) (n:=w.heap.size+1+1) [.slice none 0 0,.slice (PT (w.heap.size+1)) n n,.slice none 0 0,.slice (PT w.heap.size) c c,.slice none 0 0,U 0] (by simp)).drew;have S:=ql9 (n:=c) (by omega) w;have v:=ql9 (n:=n) (by omega) (w.alloc (.cells (madeCells #[U 0] c) 3));rw[jdi]at v;exact⟨_,_,qja.first R (qry v l) (qry (qry S t) l) (by omega) (by omega) (by omega) (by omega) (jcd _) (by omega) (qa (qa Q t) l)⟩
 clear h1 h4 h6;go_enter func15,ntmps15
 go_wp2_with (first|(go_at_call 28;with_reducible refine N.mono ?_;rintro e w1 ⟨rfl,x⟩;have W:=x.symm;clear x;subst W)|(go_at_call 28;with_reducible refine O.mono ?_;rintro e w1 ⟨rfl,x⟩;have W:=x.symm;clear x;subst W))
 go_region
 all_goals
  first
   |(obtain⟨B,C⟩:∃B,(((w.alloc (.cells (madeCells #[U 0] n) 3)).alloc (.cells (madeCells #[U 0] c) 3)).alloc (.cells #[.slice none 0 0,.slice (PT w.heap.size) n n,.slice none 0 0,.slice (PT (w.heap.size+1)) c c,.slice none 0 0,U 0] 74)).drew=B:=⟨_,rfl⟩
     rw[C]at P ⊢;have X:=P
     clear C)
   |(obtain⟨B,C⟩:∃B,(((w.alloc (.cells (madeCells #[U 0] c) 3)).alloc (.cells (madeCells #[U 0] n) 3)).alloc (.cells #[.slice none 0 0,.slice (PT (w.heap.size+1)) n n,.slice none 0 0,.slice (PT w.heap.size) c c,.slice none 0 0,U 0] 74)).drew=B:=⟨_,rfl⟩
     rw[C]at V ⊢;have X:=V
     clear C)
  go_wp2_with fail
  go_loopw [23] (λiv wr=>∃(k:Nat) (z:Int) (M:RoM) (b:Nat->Nat->Prop),k<=n/\z=k/\iv=U z/\Hid (qja w (w.heap.size+1+1) n c k 0 M b wr)) (λiv _=>n-(intOf iv).toNat)
  case atStart=>
   obtain⟨M,b,h⟩:=X.out;exact⟨0,0,M,b,by omega,rfl,rfl,h⟩
  clear X P V M1 M2 N O;obtain⟨k,z,M,b,hk,Y,rfl,a⟩:=hrel;have K:=hd1 Y;by_cases hlt:k<n
  ·have L:z<(n:Int):=by omega
   have g3:0<=z:=by omega
   have g4:z<4:=by have:=s.out;omega
   obtain⟨sa,Z,d,r⟩:=qq a.out.sr;have p:=hd1 d;have g:=a.out.box;rw[d]at g;have c0:=g.c 0;have hlw:=g.lt;have D:Bw wr ((wr.alloc (.cells #[U z,U 0,U 0,U 0,U 0,U 0,U 0,.slice none 0 0,.slice none 0 0,.slice none 0 0,U 0,U 0,U 0,U 0,U 0,U 0,U 0,U 0,U 0,U 0,U 0,U 0,U 0,U 0,U 0,U 0] 86)).alloc (.cells #[PP wr.heap.size] 75)):=boxed (boxed (jcc _ wr) _) _;have E:=qf a.out.sr (λq e=>D.block q (a.out.sr.lt q e).2);rw[d]at E;have B2:=g.later D;have HNB:Hid (M.sv.ownBlock≠some (w.heap.size+1+1)):=λe=>qpw a.out.ap (i:=0) (j:=1) (by decide) rfl (by show some M.sv.ownBlock=_;rw[e]);have F:=World.news_of_block (heap_alloc_new (wr.alloc (.cells #[U z,U 0,U 0,U 0,U 0,U 0,U 0,.slice none 0 0,.slice none 0 0,.slice none 0 0,U 0,U 0,U 0,U 0,U 0,U 0,U 0,U 0,U 0,U 0,U 0,U 0,U 0,U 0,U 0,U 0] 86)) (.cells #[PP wr.heap.size] 75));rw[jdi]at F;have hrl:=r.len;clear Y r d
   go_wp2_with (at_builtin;refine wpList_append_lies _ rfl (.tmp 30) (.tmp 34) 70 rfl 0 75 i0 (.pointer none) 1 8 underlying70 hi0 hz0 hz1 hz2 rfl (by decide) (.slice sa k Z) k (qgn M.bp k) rfl E (AD (wr.heap.size+1) 0) 1 1 [PP wr.heap.size] rfl rfl F (by intro u H;simp at H;rw[H];rfl) (by decide) (by have:=s.out;simp only[maxLen];omega) (by have:=s.out;omega) (jcw _) _ rfl ?_;intro g9 cap9 wE ownE I egE ltE;have J:qd wE (w.heap.size+1+1) _:=B2.grown I (λe=>HNB.out (by rw[p.out];exact e.symm));have e0:=J.c 0;have f0:=J.f 0)
   have NX:=hd1 (a.out.site (w2:=(wr.alloc (.cells #[U z,U 0,U 0,U 0,U 0,U 0,U 0,.slice none 0 0,.slice none 0 0,.slice none 0 0,U 0,U 0,U 0,U 0,U 0,U 0,U 0,U 0,U 0,U 0,U 0,U 0,U 0,U 0,U 0,U 0] 86)).alloc (.cells #[PP wr.heap.size] 75)) (T:=86) (o:=(.cells #[PP wr.heap.size] 75)) (by rw[K.out];rfl) ownE (by rw[p.out];exact I) (by rw[p.out];simpa using egE))
   go_roundw
   case rel=>exact⟨k+1,z+1,_,_,by omega,by have:=K.out;omega,by go_num,NX.out⟩
   simp[intOf];have:=K.out;omega
  have L:¬z<(n:Int):=by omega
  have ek:k=n:=by omega
  subst ek;have H0:=a;clear Y hlt K
  go_wp2_with fail
  clear L
  go_loopw [40] (λiv wr=>∃(m:Nat) (y:Int) (M:RoM) (b:Nat->Nat->Prop),m<=c/\y=m/\iv=U y/\Hid (qja w (w.heap.size+1+1) k c k m M b wr)) (λiv _=>c-(intOf iv).toNat)
  case atStart=>exact⟨0,0,M,b,by omega,rfl,rfl,H0.out⟩
  clear H0 a;obtain⟨m,y,M,b,hm,hy,rfl,a⟩:=hrel;have HY:=hd1 hy;by_cases hml:m<c
  ·have L:y<(c:Int):=by omega
   have g3:0<=y:=by omega
   have g4:y<6:=by have:=s.out;omega
   obtain⟨sa,Z,d,r⟩:=qq a.out.cr;have p:=hd1 d;have g:=a.out.box;rw[d]at g;have c0:=g.c 2;have hlw:=g.lt;have D:Bw wr ((wr.alloc (.cells #[U 0,U 0,U 0,U 0,U 0,U 0,U 0,U 0,.bool false,.slice none 0 0] 90)).alloc (.cells #[PP wr.heap.size] 87)):=boxed (boxed (jcc _ wr) _) _;have E:=qf a.out.cr (λq e=>D.block q (a.out.cr.lt q e).2);rw[d]at E;have B2:=g.later D;have HNB:Hid (M.cv.ownBlock≠some (w.heap.size+1+1)):=λe=>qpw a.out.ap (i:=0) (j:=3) (by decide) rfl (by show some M.cv.ownBlock=_;rw[e]);have F:=World.news_of_block (heap_alloc_new (wr.alloc (.cells #[U 0,U 0,U 0,U 0,U 0,U 0,U 0,U 0,.bool false,.slice none 0 0] 90)) (.cells #[PP wr.heap.size] 87));rw[jdi]at F;have hrl:=r.len;clear hy r d
   go_wp2_with (at_builtin;refine wpList_append_lies _ rfl (.tmp 46) (.tmp 49) 71 rfl 0 87 i5 (.pointer none) 1 8 underlying71 hi5 hy0 hy1 hy2 rfl (by decide) (.slice sa m Z) m (qgn M.bs m) rfl E (AD (wr.heap.size+1) 0) 1 1 [PP wr.heap.size] rfl rfl F (by intro u H;simp at H;rw[H];rfl) (by decide) (by have:=s.out;simp only[maxLen];omega) (by have:=s.out;omega) (jcw _) _ rfl ?_;intro g9 cap9 wE ownE I egE ltE;have J:qd wE (w.heap.size+1+1) _:=B2.grown I (λe=>HNB.out (by rw[p.out];exact e.symm));have e0:=J.c 2;have f0:=J.f 2)
   have NX:=hd1 (a.out.ses (T:=90) (o:=(.cells #[PP wr.heap.size] 87)) rfl ownE (by rw[p.out];exact I) (by rw[p.out];simpa using egE))
   go_roundw
   case rel=>exact⟨m+1,y+1,_,_,by omega,by have:=HY.out;omega,by go_num,NX.out⟩
   simp[intOf];have:=HY.out;omega
  have L:¬y<(c:Int):=by omega
  have em:m=c:=by omega
  subst em;clear hy
  go_wp2_with fail
  go_ret2;exact⟨rfl,_,a.out.done.1,a.out.done.2,a.out.hb⟩
theorem q2j {n c:Int} (h:¬((1<=n/\n<=4)/\(0<=c/\c<=6))) (w:World):
 Ca 15 #[U n,U c] w (Rn (.tuple #[.pointer none,U 2]) w):=by
 have g:=qgy n 1 4 w;have i:=qgy c 0 6 w;by_cases b:1<=n/\n<=4
 ·rw[jk.2 b]at g
  have d:inB c 0 6=false:=by
   cases q:inB c 0 6
   ·rfl
   exact absurd ⟨b,jk.1 q⟩ h
  rw[d]at i;clear b h d;go_enter func15,ntmps15
  go_wp2_with (first|(go_at_call 28;with_reducible refine g.mono ?_;rintro e j ⟨rfl,a⟩;have f:=a.symm;clear a;subst f)|(go_at_call 28;with_reducible refine i.mono ?_;rintro e j ⟨rfl,a⟩;have f:=a.symm;clear a;subst f))
  go_ret2;exact⟨rfl,jcc _ _⟩
 have d:inB n 1 4=false:=by
  cases q:inB n 1 4
  ·rfl
  exact absurd (jk.1 q) b
 rw[d]at g;clear b h d i;go_enter func15,ntmps15
 go_wp2_with (go_at_call 28;with_reducible refine g.mono ?_;rintro e j ⟨rfl,a⟩;have f:=a.symm;clear a;subst f)
 go_ret2;exact⟨rfl,jcc _ _⟩
end
theorem qpv {b l:Nat} {wv:Value} {s:qy} {G:Nat->Prop} {F:Nat->Option Obj} {S:qe} (key:Int) (w:World) (h:qgs w b wv s) (B:RS w l G F S) (C:j3 S):
 Ca 32 #[PP b,PP l,U key] w (Rn (.tuple #[.string (vi S s key).1,U (vi S s key).2]) w):=by
 have D:=hd1 h;have n:=hd2 B C;have o:=h.box.c 8;have i:=qla key w h;cases ho:s.opn
 ·rw[ho]at o
  have f:Hid (vi S s key=(⟨#[]⟩,6)):=by show _=_;unfold vi;rw[ho];rfl
  rw[f.out];go_enter Tryz.func32,Tryz.ntmps32
  go_wp2_with fail
  go_ret2;exact⟨rfl,jcc _ _⟩
 rw[ho]at o;cases hw:qay s.ws key with
 |none=>
  obtain⟨⟨⟨p,q,rs,r,m,t⟩,u⟩,v⟩:∃x,qbq S key s.s0 s.s1 s.s2 s.s3=x:=⟨_,rfl⟩
  have f:Hid (vi S s key=(m,u)):=by show _=_;unfold vi;rw[ho,hw,v];rfl
  rw[hw,show qav s.ws key=⟨0,⟨#[]⟩,false⟩ by unfold qav;rw[hw];rfl]at i
  have E:Hid (∀w',Bw w w'->Ca 79 #[PP l,U key,.agg #[U s.s0,U s.s1,U s.s2,U s.s3]] w' λe H=>e=.returned (.tuple #[.agg #[U p,U q,U rs,U r,.string m,.bool t],U u])/\Bw w' H):=λw' I=>by
   have:=q07 key s.s0 s.s1 s.s2 s.s3 w' (n.out.1.later I) n.out.2;rw[v]at this;exact this
  rw[f.out];go_enter Tryz.func32,Tryz.ntmps32
  go_wp2_with fail
  refine i.mono ?_;rintro e y ⟨rfl,j⟩;rw[show wrV ⟨0,⟨#[]⟩,false⟩=.agg #[U 0,.string ⟨#[]⟩,.bool false]from rfl,show (none:Option Wr).isSome=false from rfl];have g:=boxed j (.cells #[U 0,.string ⟨#[]⟩,.bool false] 100);have k:=D.out.box.later g;have M:=k.c 4;have N:=k.c 5;have O:=k.c 6;have P:=k.c 7;have J:=E.out _ g
  go_wp2_with fail
  refine J.mono ?_;rintro e Q ⟨rfl,K⟩;have L:=boxed (qa g K) (.cells #[U p,U q,U rs,U r,.string m,.bool t] 130)
  go_wp2_with fail
  go_ret2;exact⟨rfl,L⟩
 |some x=>
  obtain⟨d,a,z⟩:=x;rw[hw,show qav s.ws key=⟨d,a,z⟩ by unfold qav;rw[hw];rfl]at i;cases z
  ·have f:Hid (vi S s key=(a,0)):=by show _=_;unfold vi;rw[ho,hw];rfl
   rw[f.out];go_enter Tryz.func32,Tryz.ntmps32
   go_wp2_with fail
   refine i.mono ?_;rintro e y ⟨rfl,j⟩;rw[show wrV ⟨d,a,false⟩=.agg #[U d,.string a,.bool false]from rfl,show (some (⟨d,a,false⟩:Wr)).isSome=true from rfl];have g:=boxed j (.cells #[U d,.string a,.bool false] 100)
   go_wp2_with fail
   go_ret2;exact⟨rfl,g⟩
  have f:Hid (vi S s key=(⟨#[]⟩,8)):=by show _=_;unfold vi;rw[ho,hw];rfl
  rw[f.out];go_enter Tryz.func32,Tryz.ntmps32
  go_wp2_with fail
  refine i.mono ?_;rintro e y ⟨rfl,j⟩;rw[show wrV ⟨d,a,true⟩=.agg #[U d,.string a,.bool true]from rfl,show (some (⟨d,a,true⟩:Wr)).isSome=true from rfl];have g:=boxed j (.cells #[U d,.string a,.bool true] 100)
  go_wp2_with fail
  go_ret2;exact⟨rfl,g⟩
end Go.Proofs.YtoanjdndmlffdaaGreatDoor
