import Derived.Test.YtoanjdndmlffdaaGreatDoorRTakeC0
import Derived.Test.YtoanjdndmlffdaaGreatDoorRTakeB
import Derived.Lib.SpaceUEq
import Derived.RegionDies
set_option maxHeartbeats 24000000
set_option maxRecDepth 1000000
namespace Go.Proofs.YtoanjdndmlffdaaGreatDoor
section
open Go.RowKit
noncomputable def ja8:Code:=((Tryz.f84.body.bind (qfn 16)).getD .skip)
theorem qw2 {b:Nat} {G:Nat->Prop} {F:Nat->Option Obj} {S:qe} {Q V W X Y Z y7 y8 y9 y10 y11 y12 y13 y14 y15 y16 y17 y18 y19 y20 y21 y22 y23 y24 y25 y26 y27 y28 y29 y30 y31 y32 y33 y34 y35 y36 y37 y38 y39 y40 y41 y42 y43 y44 y45 y46 y47 y48 y49 y50 y51 y52 y53 y54 y55 y56 y57 y58 y59 y60 y61 y62 y63 y64 y65 y66 y67 y68 y69 y70 y71 y72 y73 y74 y75 y76 y77 y78 y79 y80 y81 y82 y83 y84 y85 y86 y87 y88 y89 y90 y91 y92 y93 y94 y95 y96 y97 y98 y99 y100 y101 y102 y103 y104 y105 y106 y107 y108 y109 y110 y111 y112 y113 y114 y115 y116 y117 y118 y119 y120 y121 y122 y123 y124 y125 y126 y127 y128 y129 y130 y131 y132 y133 y134 y135 y136 y137 y138 y139 y140 y141 y142 y143 y144 y145 y146 y147 y148 y149 y150 y151 y152 y153 y154 y155 y156 y157 y158 y159 y160 y161 y162 y163 y164 y165 y166 y167 y168 y169 y170 y171 y172 y173 y174 y175 y176 y177 y178 y179 y180 y181 y182 y183 y184 y185 y186 y187 y188 y189 y190 y191 y192 y193 y194 y195 y196:Value} (w:World) (M0:qns w b G F S S w) (R:Act->World->Prop)
 (hR:∀(u8 u9 u10 u11 u111 u112 u113 u114 u115 u116 u117 u118 u119 u120 u121 u122 u123 u124 u125 u126 u127 u128 u129 u130 u131 u132 u133 u134 u135 u136 u137 u138 u139 u140 u141 u142 u143 u144 u145 u146 u147 u148 u149 u150 u151 u152 u153 u154 u155 u156 u157 u158 u159 u160 u161 u162 u163 u164 u165 u166 u167 u168 u169 u170 u171 u172 u173 u174 u175 u176 u177 u178 u179 u180 u181 u182 u183 u184 u185 u186 u187 u188 u189 u190 u191 u192 u193 u194 u195 u196:Value) (S':qe) (w':World),qfm S S'->RPo w b G F S' w'->R ⟨List.toArray ((.pointer (some ⟨b,0,none⟩))::Q::V::W::X::Y::Z::y7::u8::u9::u10::u11::y12::y13::y14::y15::y16::y17::y18::y19::y20::y21::y22::y23::y24::y25::y26::y27::y28::y29::y30::y31::y32::y33::y34::y35::y36::y37::y38::y39::y40::y41::y42::y43::y44::y45::y46::y47::y48::y49::y50::y51::y52::y53::y54::y55::y56::y57::y58::y59::y60::y61::y62::y63::y64::y65::y66::y67::y68::y69::y70::y71::y72::y73::y74::y75::y76::y77::y78::y79::y80::y81::y82::y83::y84::y85::y86::y87::y88::y89::y90::y91::y92::y93::y94::y95::y96::y97::y98::y99::y100::y101::y102::y103::y104::y105::y106::y107::y108::y109::y110::u111::u112::u113::u114::u115::u116::u117::u118::u119::u120::u121::u122::u123::u124::u125::u126::u127::u128::u129::u130::u131::u132::u133::u134::u135::u136::u137::u138::u139::u140::u141::u142::u143::u144::u145::u146::u147::u148::u149::u150::u151::u152::u153::u154::u155::u156::u157::u158::u159::u160::u161::u162::u163::u164::u165::u166::u167::u168::u169::u170::u171::u172::u173::u174::u175::u176::u177::u178::u179::u180::u181::u182::u183::u184::u185::u186::u187::u188::u189::u190::u191::u192::u193::u194::u195::u196::[]),[]⟩ w'):
 Code.wp Tryz.prog ja8 (λe a w=>e=.exit 2/\R a w) ⟨List.toArray ((.pointer (some ⟨b,0,none⟩))::Q::V::W::X::Y::Z::y7::y8::y9::y10::y11::y12::y13::y14::y15::y16::y17::y18::y19::y20::y21::y22::y23::y24::y25::y26::y27::y28::y29::y30::y31::y32::y33::y34::y35::y36::y37::y38::y39::y40::y41::y42::y43::y44::y45::y46::y47::y48::y49::y50::y51::y52::y53::y54::y55::y56::y57::y58::y59::y60::y61::y62::y63::y64::y65::y66::y67::y68::y69::y70::y71::y72::y73::y74::y75::y76::y77::y78::y79::y80::y81::y82::y83::y84::y85::y86::y87::y88::y89::y90::y91::y92::y93::y94::y95::y96::y97::y98::y99::y100::y101::y102::y103::y104::y105::y106::y107::y108::y109::y110::y111::y112::y113::y114::y115::y116::y117::y118::y119::y120::y121::y122::y123::y124::y125::y126::y127::y128::y129::y130::y131::y132::y133::y134::y135::y136::y137::y138::y139::y140::y141::y142::y143::y144::y145::y146::y147::y148::y149::y150::y151::y152::y153::y154::y155::y156::y157::y158::y159::y160::y161::y162::y163::y164::y165::y166::y167::y168::y169::y170::y171::y172::y173::y174::y175::y176::y177::y178::y179::y180::y181::y182::y183::y184::y185::y186::y187::y188::y189::y190::y191::y192::y193::y194::y195::y196::[]),[]⟩ w:=by
 have HR:Hid _:=hR
 conv=>arg 2;whnf
 go_loopw [8] (λ_ wr=>∃(c:qe),Hid (qns w b G F S c wr)) (λ_ wr=>qkk wr b)
 case atStart=>exact⟨S,M0⟩
 obtain⟨c,q⟩:=hrel;obtain⟨G',PG,hGG⟩:=q.out.mem;have LE:=hd1 PG.left;obtain⟨lv,wv,sv,log,waits,v,hl,hw,hG,hF⟩:=PG;have HFR:=hd1 hF;obtain⟨la,lc,rfl,hLT⟩:=yx v.rlog;obtain⟨va,vc,rfl,L⟩:=yx v.rwait;have d:=hd5 v hl hw hG hGG;have HVT:=hd1 L
 have hll:log.length=c.log.length:=by rw[<-hl];simp
 have hww:waits.length<=1000:=by have:=q.out.wn;rw[<-hw]at this;simpa using this
 have HWW:=hd1 hww;have s7:=v.box.cell 7 _ rfl;have s8:=v.box.cell 8 _ rfl;have hvl:=L.len;have hvc:=L.cap;have hl1:=hLT.len;have hl2:=hLT.cap;by_cases hf:200<=log.length
 ·have D:Hid (200<=c.log.length):=by show _<=_;omega
  have h2:¬(log.length:Int)<200:=by omega
  go_wp2_with fail
  exact HR.out _ _ _ _ _ _ _ _ _ _ _ _ _ _ _ _ _ _ _ _ _ _ _ _ _ _ _ _ _ _ _ _ _ _ _ _ _ _ _ _ _ _ _ _ _ _ _ _ _ _ _ _ _ _ _ _ _ _ _ _ _ _ _ _ _ _ _ _ _ _ _ _ _ _ _ _ _ _ _ _ _ _ _ _ _ _ _ _ _ _ c wr (q.out.go c (.full D.out)) q.out.done
 have D:Hid (c.log.length<200):=by show _<_;omega
 have h2:(log.length:Int)<200:=by omega
 go_wp2_with fail
 refine q58 (qzp wr d.out.1 d.out.2.2.1 q.out.inv HWW.out _ ?_);intro u9 u10 u122 u123 u124 u125 u126 u127 u128 u129 u130 u131 u132 u133 u134 u135 u136 u137 u138 u139 u140 u141 u142 u143 u144 u145 u146 u147 u148 u149 u150 u151 u152 u153 u154 u155 u156 u157 u158 u159 u160 u161 u162 u163 u164 u165 z w2 hB E;have HM2:=hd1 (q.out.later E);have H:=hd1 (d.out.1.later E);have HF2:=hd1 (HFR.out.later d.out.1 E);have HV2:=hd1 (HVT.out.later E);rcases q4j hB d.out.2.2.1 (λx y=>(qcg (q.out.inv.wt x y).1).1)with ⟨rfl,y⟩|⟨i,⟨⟨xs,f,g,h,j,k,l,n,o⟩,s,t⟩,hzi,hi,y⟩
 ·have I:=hd1 y
  go_wp2_with fail
  exact⟨trivial,HR.out _ _ _ _ _ _ _ _ _ _ _ _ _ _ _ _ _ _ _ _ _ _ _ _ _ _ _ _ _ _ _ _ _ _ _ _ _ _ _ _ _ _ _ _ _ _ _ _ _ _ _ _ _ _ _ _ _ _ _ _ _ _ _ _ _ _ _ _ _ _ _ _ _ _ _ _ _ _ _ _ _ _ _ _ _ _ _ _ _ _ c w2 (q.out.go c (.none I.out)) HM2.out.done⟩
 have I:=hd2 (show qd7 c=some ⟨xs,f,g,h,j,k,l,n,o⟩from y) hi;have M:=(jck.1 hi).1;have HZI:=hd2 hzi M
 have z0:0<=z:=by omega
 have z1:z.toNat=i:=by omega
 have z2:z<(waits.length:Int):=by omega
 have z3:¬z<0:=by omega
 obtain⟨J,K,hwa,hcc⟩:∃J K,va=some ⟨J,K,none⟩/\∀i m r u,waits[i]?=some m->(txC m)[r]?=some u->w2.cell? ⟨J,K+(i*9+r),none⟩=some u:=by
  rcases HV2.out.held with e|e
  ·rw[e]at M;simp at M
  exact e
 subst hwa;have p:=λr u (hu:(txC ⟨⟨xs,f,g,h,j,k,l,n,o⟩,s,t⟩)[r]?=some u)=>(show w2.cell? ⟨J,K+i*9+r,none⟩=some u by rw[Nat.add_assoc];exact hcc i _ r u hi hu);have x0:=p 0 _ rfl;have x1:=p 1 _ rfl;have x2:=p 2 _ rfl;have x3:=p 3 _ rfl;have x4:=p 4 _ rfl;have x5:=p 5 _ rfl;have x6:=p 6 _ rfl;have x7:=p 7 _ rfl;have x8:=p 8 _ rfl;rw[Nat.add_zero]at x0;have s28:=H.out.box.cell 8 _ rfl
 go_wp2_with fail
 have B:=boxed (jcc w2.heap.size w2) (.cells (List.toArray (T9 xs f g h j k l n s o.length t)) 102);have C:=hd1 (H.out.later B);have N:=qd.new (w:=w2) (T:=102) (T9 xs f g h j k l n s o.length t) rfl;change qd (w2.alloc (.cells (List.toArray (T9 xs f g h j k l n s o.length t)) 102)) w2.heap.size (T9 xs f g h j k l n s o.length t)at N;have HM3:=hd1 (HM2.out.later B);have HF3:=hd1 (HF2.out.later H.out B);have HV3:=hd1 (HV2.out.later B);obtain⟨O,hW3⟩:∃O,w2.alloc (.cells (List.toArray (T9 xs f g h j k l n s o.length t)) 102)=O:=⟨_,rfl⟩
 have hnb:w2.heap.size≠b:=by have:=H.out.box.lt;omega
 rw[hW3]at B C N HM3 HF3 HV3 ⊢;refine qma (qvg O HV3 HWW HZI (C.out.box.cell 8 _ rfl) (C.out.box.free 8 (by simp[vz])) _ ?_);intro u175 u176 u177 u178 u179 u180 u181 u182 u183 u184 u185 u186 u187 u188 u189 u190 u191 u192 u193 w7 g2 c2 n2 hb7 hg1 hg2 hn2 own7
 obtain⟨P7,T7,F7⟩:=C.out.reset hb7 hg1 own7 hn2.symm (λm hm=>.inl (by
  rcases jcf.1 hm with P|P
  ·exact List.mem_of_mem_take P
  exact List.mem_of_mem_drop P)) (qdv c.waits ⟨xs,f,g,h,j,k,l,n,o⟩)
 have AP:=qsa HM3.out C.out HF3.out d.out.2.1 d.out.2.2.1 d.out.2.2.2.1 d.out.2.2.2.2 I.out.2 D.out I.out.1 T7 F7 P7;have RX7:qd (w7.setCell ⟨b,8,none⟩ (.slice (some ⟨g2,0,none⟩) n2 c2)) w2.heap.size (T9 xs f g h j k l n s o.length t):=(N.later hb7).kept (jce _ _ _ _ hnb) (by simp[World.setCell]);obtain⟨W8,hW8⟩:∃W8,w7.setCell ⟨b,8,none⟩ (.slice (some ⟨g2,0,none⟩) n2 c2)=W8:=⟨_,rfl⟩;rw[hW8]at AP RX7 ⊢;obtain⟨x0,x1,x2,x3,x4,x5,x6,x7,x8⟩:=RX7.c9
 go_wp2_with fail
 refine AP.mono ?_;rintro e w9 ⟨rfl,hM9,_⟩;have HM9:=hd1 hM9
 go_wp2_with fail
 go_roundw
 case rel=>exact⟨_,HM9⟩
 obtain⟨G5,p5,_⟩:=HM9.out.mem;rw[p5.left,LE.out];have:=D.out;simp[qj5,vr];omega
end
section
open Go.RowKit
noncomputable def q8z:Code:=((Tryz.f84.body.bind (qfe 12)).getD .skip)
theorem qni {b:Nat} {G:Nat->Prop} {F:Nat->Option Obj} {S:qe} {C Q a:Option Addr} {lc R cap:Nat} {sv:Value} {log waits:List TxM} {d f wall i l n q r:Int} {ws:List Wr} {nw:Bool} {y1 y2 y4 y5 y6 y8 y9 y10 y11 y12 y13 y14 y15 y16 y17 y18 y19 y20 y21 y22 y23 y24 y25 y26 y27 y28 y29 y30 y31 y32 y33 y34 y35 y36 y37 y38 y39 y40 y41 y42 y43 y44 y45 y46 y47 y48 y49 y50 y51 y52 y53 y54 y55 y56 y57 y58 y59 y60 y61 y62 y63 y64 y65 y66 y67 y68 y69 y70 y71 y72 y73 y74 y75 y76 y77 y78 y79 y80 y81 y82 y83 y84 y85 y86 y87 y88 y89 y90 y91 y92 y93 y94 y95 y96 y97 y98 y99 y100 y101 y102 y103 y104 y105 y106 y107 y108 y109 y110 y111 y112 y113 y114 y115 y116 y117 y118 y119 y120 y121 y122 y123 y124 y125 y126 y127 y128 y129 y130 y131 y132 y133 y134 y135 y136 y137 y138 y139 y140 y141 y142 y143 y144 y145 y146 y147 y148 y149 y150 y151 y152 y153 y154 y155 y156 y157 y158 y159 y160 y161 y162 y163 y164 y165 y166 y167 y168 y169 y170 y171 y172 y173 y174 y175 y176 y177 y178 y179 y180 y181 y182 y183 y184 y185 y186 y187 y188 y189 y190 y191 y192 y193 y194 y195 y196:Value} (w c:World) (J:vu c b (.slice C log.length lc) (.slice Q waits.length R) sv S log waits)
 (hl:log.map (·.t)=S.log) (hw:waits.map (·.t)=S.waits) (hG:∀k,G k↔(qu b (.slice C log.length lc) (.slice Q waits.length R) sv k\/∃m∈log++waits,m.blk k)) (hF:qdn c F log) (hGL:∀k,G k->k<w.heap.size) (hRB:qd c w.heap.size (T9 d f wall i l n q r a ws.length cap)) (hW4:qr c a cap ws) (sw:1<=ws.length/\ws.length<=5)
 (hn:waits.length<=900) (hI:j3 {S with waits:=S.waits++[⟨d,f,wall,i,l,n,q,r,ws⟩]}) (K:Bw w c) (hf:log.length<200) (h40:waits.length<40\/nw=true):
 Code.wp Tryz.prog q8z (λe a w'=>e=.ret/\a.defers=[]/\a.tmps[4]?=some (U 0)/\∃S',qfm {S with waits:=S.waits++[⟨d,f,wall,i,l,n,q,r,ws⟩]} S'/\RPo w b G F S' w') ⟨List.toArray ((PP b)::y1::y2::(PP w.heap.size)::y4::y5::y6::(.bool nw)::y8::y9::y10::y11::y12::y13::y14::y15::y16::y17::y18::y19::y20::y21::y22::y23::y24::y25::y26::y27::y28::y29::y30::y31::y32::y33::y34::y35::y36::y37::y38::y39::y40::y41::y42::y43::y44::y45::y46::y47::y48::y49::y50::y51::y52::y53::y54::y55::y56::y57::y58::y59::y60::y61::y62::y63::y64::y65::y66::y67::y68::y69::y70::y71::y72::y73::y74::y75::y76::y77::y78::y79::y80::y81::y82::y83::y84::y85::y86::y87::y88::y89::y90::y91::y92::y93::y94::y95::y96::y97::y98::y99::y100::y101::y102::y103::y104::y105::y106::y107::y108::y109::y110::y111::y112::y113::y114::y115::y116::y117::y118::y119::y120::y121::y122::y123::y124::y125::y126::y127::y128::y129::y130::y131::y132::y133::y134::y135::y136::y137::y138::y139::y140::y141::y142::y143::y144::y145::y146::y147::y148::y149::y150::y151::y152::y153::y154::y155::y156::y157::y158::y159::y160::y161::y162::y163::y164::y165::y166::y167::y168::y169::y170::y171::y172::y173::y174::y175::y176::y177::y178::y179::y180::y181::y182::y183::y184::y185::y186::y187::y188::y189::y190::y191::y192::y193::y194::y195::y196::[]),[]⟩ c:=by
 have PM4:=hd1 J;have y:=hd3 hl hw hG;have L:=hd1 hGL;have HF4:=hd1 hF;have T:=hd1 hRB;have HW4:=hd1 hW4;have V:=hd1 sw
 have HLN:Hid (waits.length<=1000):=by show _<=_;omega
 have HN9:=hd1 hn;have HI:=hd1 hI;obtain⟨la',lc',el,hLT⟩:=yx J.rlog;obtain⟨va',vc',ev,hVT⟩:=yx J.rwait;injection el with el1 el2 el3;injection ev with ev1 ev2 ev3;subst el1 el3 ev1 ev3;have hvl:=hVT.len;have hvc:=hVT.cap;have hll:=hLT.len;have hlc:=hLT.cap;have s7:=J.box.cell 7 _ rfl;have s8:=J.box.cell 8 _ rfl
 have B:¬(200:Int)<=(log.length:Int):=by omega
 conv=>arg 2;whnf
 by_cases g4:waits.length<40
 have g40:¬(40:Int)<=(waits.length:Int):=by omega
 rotate_left
 have g40:(40:Int)<=(waits.length:Int):=by omega
 have hnw:=h40.resolve_left g4;subst hnw
 all_goals
  obtain⟨M,N,haa,hcc⟩:∃M N,a=some (AD M N)/\qbo c M N ws:=by
   rcases HW4.out.held with h0|h0
   ·exfalso
    have:=V.out;rw[h0]at this;simp at this
   exact h0
  have W:=T.out.cell 8 _ rfl;have f8:=T.out.free 8 (by simp);have HN4:Hid (∀j u,(qcf ws)[j]?=some u->(c.nu #[] 100).cell? (((AD M N):Addr).add j)=some u):=qsc (hcc.later (boxed (jcc _ c) _));have own0:=qjq c 100 rfl c.heap.size (jcd _);obtain⟨i0,hi,hz0,hz1,hz2⟩:=info_parts qmn;have lt8:=T.out.lt;rw[haa]at W
  go_wp2_with (at_builtin;refine wpList_append_lies _ rfl (.tmp 94) (.tmp 96) 88 rfl c.heap.size 100 i0 (.agg #[U 0,.string ⟨#[]⟩,.bool false]) 3 32 Tryz.underlying88 hi hz0 hz1 hz2 rfl (by decide) (.slice (PT c.heap.size) 0 0) 0 [] rfl own0 (AD M N) ws.length cap (qcf ws) rfl (qdt ws) HN4.out (qji ws) (by have:=V.out;omega) (by have:=V.out;simp only[maxLen];omega) (by have:=V.out;omega) (by simp) _ rfl ?_;intro g s D ownE Y egE ltE;have RBE:=(T.out.boxed (.cells #[] 100)).grown Y (λe=>by simp[Value.ownBlock]at e<;>omega);have f8E:=RBE.free 8 (by simp);have t8E:=RBE.cell 8 _ rfl)
  have HGE:=hd2 (show c.heap.size<=g from by rcases egE with h|h<;>simp[Value.ownBlock]at h<;>omega) ltE;have hbE:=(boxed K (.cells #[] 100)).grown Y (by have:=K.size;simp;omega) (λj hj=>by have:=K.size;simp[Value.ownBlock]at hj;omega)
  have WGE:qr D (PT g) s ws:=by
   rw[Nat.zero_add,jda]at ownE;obtain⟨a9,c9,e9,hW9⟩:=qbg ownE;injection e9 with O e2 e3;subst O e3;exact hW9
  have hb5:=hbE.setCell (p:=AD w.heap.size 8) (jcd _) (.slice (PT g) ws.length s);have RB5:qd (D.setCell (AD w.heap.size 8) (.slice (PT g) ws.length s)) w.heap.size (T9 d f wall i l n q r (PT g) ws.length s):=RBE.set 8 _ (by simp);have HKB:Hid (∀k,k≠w.heap.size->k<c.heap.size->(D.setCell (AD w.heap.size 8) (.slice (PT g) ws.length s)).heap[k]?=c.heap[k]?):=λk v hl=>(jce _ _ _ _ v).trans ((Y.block k (by simp;omega) (λe=>by simp[Value.ownBlock]at e;omega)).trans (jdg _ _ _ hl));have WG5:qr (D.setCell (AD w.heap.size 8) (.slice (PT g) ws.length s)) (PT g) s ws:=qr.kept (m:=⟨⟨d,f,wall,i,l,n,q,r,ws⟩,some (AD g 0),s⟩) (w:=D) WGE (λk e=>jce _ _ _ _ (by obtain⟨_,o,e⟩:=e;injection e with e;injection e with e;have:=HGE.out;simp only;omega));obtain⟨E,hW5⟩:∃E,D.setCell (AD w.heap.size 8) (.slice (PT g) ws.length s)=E:=⟨_,rfl⟩;rw[hW5]at hb5 RB5 HKB WG5 ⊢
  have hs5:c.heap.size<=E.heap.size:=by rw[<-hW5];have:=Y.size;simp[World.setCell]at this ⊢;omega
  have P:=hd1 (PM4.out.keptB (λk v=>HKB.out k (by have:=L.out k ((y.out.2.2 k).2 v);omega) (by have:=L.out k ((y.out.2.2 k).2 v);have:=K.size;omega)) hs5);have FR5:=hd1 (HF4.out.to (λm hm k e=>have v:qu b (.slice C log.length lc) (.slice Q waits.length R) sv k\/∃m∈log++waits,m.blk k:=.inr ⟨m,jcf.2 (.inl hm),e⟩;HKB.out k (by have:=L.out k ((y.out.2.2 k).2 v);omega) (by have:=L.out k ((y.out.2.2 k).2 v);have:=K.size;omega)) (λ_ h=>h))
  have HV5:Hid (qdy E Q R waits):=by
   obtain⟨va',vc',ev,hv⟩:=yx P.out.rwait;injection ev with O e2 e3;rw[O,e3];exact hv
  have HW5:=hd3 WG5 (show w.heap.size<g from by have:=HGE.out;omega) (show g<E.heap.size from by rw[<-hW5];have:=HGE.out;simp[World.setCell];omega);refine qma (qui E HV5 HLN RB5 (P.out.box.cell 8 _ rfl) (P.out.box.free 8 (by simp[vz])) _ ?_);intro u99 u100 u101 u102 u103 u104 u105 u106 u107 u108 u109 u110 w7 Z c2 hb7 hg1 hg2 own7;rw[<-qjs]at own7
  have HBK:Hid (∀k,TxM.blk ⟨⟨d,f,wall,i,l,n,q,r,ws⟩,some (AD g 0),s⟩ k->k=g):=λk e=>by obtain⟨_,o,e⟩:=e;injection e with e;injection e with e;exact e.symm
  obtain⟨P7,T7,F7⟩:=P.out.reset hb7 hg1 own7 (by simp) (λm hm=>by
   rcases jcf.1 hm with z|z
   ·exact .inl z
   rw[jcj.1 z];refine .inr ⟨HW5.out.1,λk e hf=>?_⟩;have O:=HBK.out k e;have:=L.out k ((y.out.2.2 k).2 (.inl hf));have:=HW5.out
   omega) (S.waits++[⟨d,f,wall,i,l,n,q,r,ws⟩])
  have fr8:=FR5.out.touch P.out T7 (λ_ h=>h);have W:=(qc.ofBelow (F:=G) hb5).more T7 (λk v=>.inl ((y.out.2.2 k).2 (.inl v)))
  have g8:∀k,(qu b (.slice C log.length lc) (.slice (PT Z) (waits.length+1) c2) sv k\/∃m∈log++(waits++[⟨⟨d,f,wall,i,l,n,q,r,ws⟩,some (AD g 0),s⟩]),m.blk k)->G k\/w.heap.size<=k:=λk v=>by
   rcases v with z|⟨x,hx,z⟩
   ·rcases F7 k z with B|B
    ·exact .inl ((y.out.2.2 k).2 (.inl B))
    exact .inr (by have:=hb5.size;omega)
   rcases jcf.1 hx with B|B
   ·exact .inl ((y.out.2.2 k).2 (.inr ⟨x,jcf.2 (.inl B),z⟩))
   rcases jcf.1 B with h3|h3
   ·exact .inl ((y.out.2.2 k).2 (.inr ⟨x,jcf.2 (.inr h3),z⟩))
   rw[jcj.1 h3]at z;have O:=HBK.out k z;have:=HW5.out;exact .inr (by omega)
  obtain⟨H,hW8⟩:∃H,w7.setCell (AD b 8) (.slice (PT Z) (waits.length+1) c2)=H:=⟨_,rfl⟩;rw[hW8]at P7 W fr8 ⊢
  have M0:qns H b (λk=>qu b (.slice C log.length lc) (.slice (PT Z) (waits.length+1) c2) sv k\/∃m∈log++(waits++[⟨⟨d,f,wall,i,l,n,q,r,ws⟩,some (AD g 0),s⟩]),m.blk k) F {S with waits:=S.waits++[⟨d,f,wall,i,l,n,q,r,ws⟩]} {S with waits:=S.waits++[⟨d,f,wall,i,l,n,q,r,ws⟩]} H:=
   ⟨⟨_,⟨_,_,_,log,waits++[⟨⟨d,f,wall,i,l,n,q,r,ws⟩,some (AD g 0),s⟩],P7,y.out.1,by rw[jdb,y.out.2.1];rfl,λk=>jdl,fr8⟩,λk v=>.inl v⟩,⟨rfl,rfl,rfl,jcd _,λ_ _ _=>rfl⟩,HI.out,by show (S.waits++[_]).length<=1000;rw[<-y.out.2.1];have:=HN9.out;simp;omega,λX hX=>hX⟩
  have HFI:Hid (∀S' I,RPo H b (λk=>qu b (.slice C log.length lc) (.slice (PT Z) (waits.length+1) c2) sv k\/∃m∈log++(waits++[⟨⟨d,f,wall,i,l,n,q,r,ws⟩,some (AD g 0),s⟩]),m.blk k) F S' I->RPo w b G F S' I):=λS' I hp=>RPo.trans g8 W hp
  go_wp2_with fail
  refine q58 (qw2 H M0 _ ?_);intro u8 u9 u10 u11 u111 u112 u113 u114 u115 u116 u117 u118 u119 u120 u121 u122 u123 u124 u125 u126 u127 u128 u129 u130 u131 u132 u133 u134 u135 u136 u137 u138 u139 u140 u141 u142 u143 u144 u145 u146 u147 u148 u149 u150 u151 u152 u153 u154 u155 u156 u157 u158 u159 u160 u161 u162 u163 u164 u165 u166 u167 u168 u169 u170 u171 u172 u173 u174 u175 u176 u177 u178 u179 u180 u181 u182 u183 u184 u185 u186 u187 u188 u189 u190 u191 u192 u193 u194 u195 u196 S' I hGo hPo;have FIN:Hid (∃S',qfm {S with waits:=S.waits++[⟨d,f,wall,i,l,n,q,r,ws⟩]} S'/\RPo w b G F S' I):=⟨S',hGo,HFI.out S' I hPo⟩
  go_wp2_with fail
  exact FIN.out
end
section
open Go.RowKit
theorem qi8 {tmps:Array Value} {v:Value} (w:World) (h:tmps[4]?=some v):(results Tryz.f84 tmps).run Tryz.prog w=.ok v w:=by
 simp[results,Tryz.results84,go_sem,h]
variable {b:Nat} {G:Nat->Prop} {F:Nat->Option Obj} {S:qe}
theorem qvk (m:TxM) (w:World) (h:RS w b G F S) (hI:j3 S) (hn:S.waits.length<=900) (hW:qr w m.wa m.wc m.t.ws) (hnz:jf S m.t=0):
 Ca 84 #[PP b,txV m] w λe w'=>e=.returned (U (jf S m.t))/\∃S',zu S m.t S'/\RPo w b G F S' w':=by
 obtain⟨⟨c,d,wall,o,f,g,l,n,ws⟩,a,cap⟩:=m;simp only at hW hnz ⊢;have B:=hd1 hnz;have hb:=boxed (jcc _ w) (.cells (List.toArray (T9 c d wall o f g l n a ws.length cap)) 102);have C:=qd.new (w:=w) (T:=102) (T9 c d wall o f g l n a ws.length cap) rfl;change qd (w.nu (List.toArray (T9 c d wall o f g l n a ws.length cap)) 102) w.heap.size (T9 c d wall o f g l n a ws.length cap)at C;have hne:=qb.one;have P1:=h.later hb;have W1:=hW.later hb;have HGL:=hd1 h.lt;show Ca 84 #[PP b,.agg (List.toArray (T9 c d wall o f g l n a ws.length cap))] w _;obtain⟨lv,wv,sv,log,waits,PM,hl,hw,hG,hF⟩:=id P1;obtain⟨la,lc,rfl,hLT⟩:=yx PM.rlog;obtain⟨va,vc,rfl,hVT⟩:=yx PM.rwait;have k0:=qb.cell (PM.box.cell 0 _ rfl);have t0:=qb.cell (C.cell 0 _ rfl);have t1:=qb.cell (C.cell 1 _ rfl);have t2:=qb.cell (C.cell 2 _ rfl);have t3:=qb.cell (C.cell 3 _ rfl);have t4:=qb.cell (C.cell 4 _ rfl);have t5:=qb.cell (C.cell 5 _ rfl);have t6:=qb.cell (C.cell 6 _ rfl);have t7:=qb.cell (C.cell 7 _ rfl);have t8:=qb.cell (C.cell 8 _ rfl);cases hok:okT ⟨c,d,wall,o,f,g,l,n,ws⟩
 ·have HK:Hid (jt c d wall o f g l n ws=false):=hok
  have E:jf S ⟨c,d,wall,o,f,g,l,n,ws⟩=1:=by unfold jf;rw[if_pos hok]
  exact absurd (B.out.symm.trans E) (by decide)
 have HK:Hid (jt c d wall o f g l n ws=true):=hok;obtain⟨⟨s0,s3⟩,⟨sq1,sq2⟩,sw⟩:=qcg hok;simp only at s0 s3 sq1 sq2 sw;have HOK:=hd1 hok;by_cases hid:c=S.id
 ·have E:jf S ⟨c,d,wall,o,f,g,l,n,ws⟩=1:=by unfold jf;rw[if_neg (by rw[HOK.out];decide),if_pos hid]
  exact absurd (B.out.symm.trans E) (by decide)
 have i1:(c==S.id)=false:=by simp[hid]
 have i2:decide (c=S.id)=false:=by simp[hid]
 have HID:=hd1 hid;have q:=hd4 PM hl hw hG;have HI:=hd1 hI;have HFR:Hid (qdn _ F log):=hF;have HVT:=hd2 hVT hLT;have hvl:=hVT.len;have hvc:=hVT.cap;have hll:=hLT.len;have hlc:=hLT.cap;go_enter Tryz.func84,Tryz.ntmps84
 go_wp2_with fail
 refine wrl ?_
 repeat (go_big_quiet_step (first|rfl|(go_at_call 128;with_reducible exact qg (qfc (W1.later (qb.below _)) HK.out))))
 refine wpQuiet_nil ?_;rintro w2 ⟨⟨_,hb2⟩,rfl⟩;have PM2:=hd1 (q.out.1.later hb2);have RB2:=C.later hb2;have hbw:=qa hb hb2;have HB2:Hid (Below (w.nu (List.toArray (T9 c d wall o f g l n a ws.length cap)) 102).heap.size (w.nu (List.toArray (T9 c d wall o f g l n a ws.length cap)) 102) w2):=hb2;have t0:=qb.cell (RB2.cell 0 _ rfl);have t1:=qb.cell (RB2.cell 1 _ rfl);have ks:=qb.cell (qkc PM2.out.box s0 s3)
 have s4:c<4:=by omega
 obtain⟨D,hD⟩:∃D,qp c S.a0 S.a1 S.a2 S.a3=D:=⟨_,rfl⟩;have N:=hd1 hD;rw[hD]at ks;by_cases hle:d<=D
 ·have E:jf S ⟨c,d,wall,o,f,g,l,n,ws⟩=9:=by unfold jf;rw[if_neg (by rw[HOK.out];decide),if_neg HID.out,if_pos (by rw[N.out];exact hle)]
  exact absurd (B.out.symm.trans E) (by decide)
 have HLE:Hid (D<d):=by show _<_;omega
 have q1:=decide_eq_false hle
 go_wp2_with fail
 refine wrl ?_
 repeat (go_big_quiet_step (first|rfl|fail))
 refine wpQuiet_nil ?_;rintro w3 ⟨⟨_,hb3⟩,rfl⟩;have PM3:=hd1 (PM2.out.later hb3);have RB3:=hd1 (RB2.later hb3);have hbw3:=qa hbw hb3;have HB3:=hd1 (qa HB2.out hb3);have s8:=PM3.out.box.cell 8 _ rfl
 go_wp2_with fail
 go_loopw [39] (λiv wr=>∃(k:Nat) (z:Int),k<=waits.length/\z=k/\iv=U z/\Hid (∀j x,j<k->waits[j]?=some x->vv x.t ⟨c,d,wall,o,f,g,l,n,ws⟩=false)/\Bw w3 wr) (λi _=>waits.length-(intOf i).toNat)
 case atStart=>exact⟨0,0,by omega,rfl,rfl,(λj x Q=>by omega),jcc _ _⟩
 obtain⟨k,z,hk,hz,rfl,HNM,K⟩:=hrel;have HZ:=hd1 hz;by_cases hlt:k<waits.length
 ·have R:z<(waits.length:Int):=by omega
  have g2:z.toNat=k:=by omega
  have g3:0<=z:=by omega
  obtain⟨wb,off,hwa,hcc⟩:∃wb off,va=some (AD wb off)/\∀i m r u,waits[i]?=some m->(txC m)[r]?=some u->(w.nu (List.toArray (T9 c d wall o f g l n a ws.length cap)) 102).cell? (AD wb (off+(i*9+r)))=some u:=by
   rcases HVT.out.1.held with e|e
   ·rw[e]at hlt;simp at hlt
   exact e
  obtain⟨⟨⟨xs,O,xw,xc,y0,y1,y2,y3,yw⟩,ya,yc⟩,p⟩:∃m,waits[k]?=some m:=⟨waits[k],jcg hlt⟩;have HX:=hd1 p;have I:=λr u (hu:(txC ⟨⟨xs,O,xw,xc,y0,y1,y2,y3,yw⟩,ya,yc⟩)[r]?=some u)=>(show wr.cell? (AD wb (off+k*9+r))=some u by rw[Nat.add_assoc];exact cell_later (qa HB3.out K) (hcc k _ r u p hu));have x0:=I 0 _ rfl;have x1:=I 1 _ rfl;have x2:=I 2 _ rfl;have x3:=I 3 _ rfl;have x4:=I 4 _ rfl;have x5:=I 5 _ rfl;have x6:=I 6 _ rfl;have x7:=I 7 _ rfl;have x8:=I 8 _ rfl;rw[Nat.add_zero]at x0;have s:=RB3.out.later K;have t0:=s.cell 0 _ rfl;have t1:=s.cell 1 _ rfl;have lt0:=s.lt;rw[hwa];by_cases V:xs=c
  ·by_cases J:O=d
   ·have P:(xs==c)=true:=by simp[V]
    have W:(O==d)=true:=by simp[J]
    have E:jf S ⟨c,d,wall,o,f,g,l,n,ws⟩=9:=by
     unfold jf;rw[if_neg (by rw[HOK.out];decide),if_neg HID.out,if_neg (by rw[N.out];have:=HLE.out;simp only;omega),if_pos];rw[<-q.out.2.2.1];exact List.any_eq_true.2 ⟨_,jcz.2 ⟨_,jcq HX.out,rfl⟩,qe5.2 ⟨V,J⟩⟩
    exact absurd (B.out.symm.trans E) (by decide)
   have P:(xs==c)=true:=by simp[V]
   have W:(O==d)=false:=by simp[J]
   have HNQ:Hid (vv ⟨xs,O,xw,xc,y0,y1,y2,y3,yw⟩ ⟨c,d,wall,o,f,g,l,n,ws⟩=false):=by show _=_;simp[vv,J]
   go_wp2_with fail
   go_roundw
   case rel=>exact⟨k+1,z+1,by omega,by have:=HZ.out;omega,by go_num,(λj x Q p=>by
        rcases jc7 j k with X|X
        ·exact HNM.out j x X p
        have:j=k:=by omega
        subst this;rw[HX.out]at p;injection p with p;subst p
        exact HNQ.out),boxed K _⟩
   simp[intOf];have:=HZ.out;omega
  have P:(xs==c)=false:=by simp[V]
  have HNQ:Hid (vv ⟨xs,O,xw,xc,y0,y1,y2,y3,yw⟩ ⟨c,d,wall,o,f,g,l,n,ws⟩=false):=by show _=_;simp[vv,V]
  go_wp2_with fail
  go_roundw
  case rel=>exact⟨k+1,z+1,by omega,by have:=HZ.out;omega,by go_num,(λj x Q p=>by
   rcases jc7 j k with X|X
   ·exact HNM.out j x X p
   have:j=k:=by omega
   subst this;rw[HX.out]at p;injection p with p;subst p
   exact HNQ.out),boxed K _⟩
  simp[intOf];have:=HZ.out;omega
 have R:¬z<(waits.length:Int):=by omega
 have HNA:Hid (∀x∈waits,vv x.t ⟨c,d,wall,o,f,g,l,n,ws⟩=false):=λx p=>by
  obtain⟨j,Q⟩:=List.getElem?_of_mem p;exact HNM.out j x (by have:=(jck.1 Q).1;omega) Q
 have L:=hd1 (PM3.out.later K);have s:=hd1 (RB3.out.later K);have hbwr:=qa hbw3 K;have HBr:=hd1 (qa HB3.out K);have t0:=qb.cell (s.out.cell 0 _ rfl);have t1:=qb.cell (s.out.cell 1 _ rfl);have t4:=qb.cell (s.out.cell 4 _ rfl);have t5:=qb.cell (s.out.cell 5 _ rfl);have t6:=qb.cell (s.out.cell 6 _ rfl);have t7:=qb.cell (s.out.cell 7 _ rfl);have ks:=qb.cell (qkc L.out.box s0 s3);have k1:=qb.cell (L.out.box.cell 1 _ rfl);have k2:=qb.cell (L.out.box.cell 2 _ rfl);have k3:=qb.cell (L.out.box.cell 3 _ rfl);have k4:=qb.cell (L.out.box.cell 4 _ rfl);rw[N.out]at ks;have hdd:=HI.out.dep c;rw[N.out]at hdd;have hwr:=qd1 hdd
 have hlw:waits.length=S.waits.length:=by rw[<-q.out.2.2.1];simp
 have hlg:log.length=S.log.length:=by rw[<-q.out.2.1];simp
 have M:=hd3 hlw hlg hn
 have HRE:Hid (qz S ⟨c,d,wall,o,f,g,l,n,ws⟩=(decide (d=D+1)&&qa8 S.a0 S.a1 S.a2 S.a3 f g l n)):=by show qz S ⟨c,d,wall,o,f,g,l,n,ws⟩=_;unfold qz;rw[N.out]
 have HAN:Hid (S.waits.any (λx=>vv x ⟨c,d,wall,o,f,g,l,n,ws⟩)=false):=by
  show _=_;rw[<-q.out.2.2.1,List.any_eq_false];intro x p;obtain⟨y,hy,rfl⟩:=jcz.1 p;rw[HNA.out y hy]
  decide
 have E0:Hid (jf S ⟨c,d,wall,o,f,g,l,n,ws⟩=if 200<=log.length then 12 else if 40<=waits.length/\qz S ⟨c,d,wall,o,f,g,l,n,ws⟩=false then 12 else 0):=by
  show jf S ⟨c,d,wall,o,f,g,l,n,ws⟩=_;unfold jf;rw[if_neg (by rw[HOK.out];decide),if_neg HID.out,if_neg (by rw[N.out];have:=HLE.out;simp only;omega),if_neg (by rw[HAN.out];decide),M.out.1,M.out.2.1]
 by_cases J:d=D+1
 have q2:(d==D+1)=true:=by simp[J]
 have HQ:=hd1 J;cases hc:qa8 S.a0 S.a1 S.a2 S.a3 f g l n;have HC:=hd1 hc
 have HR:Hid (qz S ⟨c,d,wall,o,f,g,l,n,ws⟩=false):=by show _=_;rw[HRE.out,hc];simp
 go_wp2_with fail
 refine wrl ?_
 repeat (go_big_quiet_step (first|rfl|(go_at_call 77;with_reducible exact qg (yo HC.out _))))
 refine wpQuiet_nil ?_;rintro w4 ⟨⟨_,H⟩,rfl⟩
 rotate_left
 have HC:=hd1 hc
 have HR:Hid (qz S ⟨c,d,wall,o,f,g,l,n,ws⟩=true):=by show _=_;rw[HRE.out,hc,HQ.out];simp
 go_wp2_with fail
 refine wrl ?_
 repeat (go_big_quiet_step (first|rfl|(go_at_call 77;with_reducible exact qg (yo HC.out _))))
 refine wpQuiet_nil ?_;rintro w4 ⟨⟨_,H⟩,rfl⟩;have PM4:=hd1 (L.out.later H);have RB4:=hd1 (s.out.later H);have hbw4:=qa hbwr H;have Y:=hd1 (qa HBr.out H);obtain⟨P,W,e3,e4,e5⟩:=qf6 B.out;have Z:waits.length<40\/true=true:=.inr rfl
 go_step;go_step
 refine wp_mono (qni w w4 PM4.out q.out.2.1 q.out.2.2.1 q.out.2.2.2 (HFR.out.later q.out.1 Y.out) HGL.out RB4.out (W1.later Y.out) sw (by have:=M.out;omega) (HI.out.wait P W e4) hbw4 (by have:=M.out;omega) Z) (λe a w' h=>?_);obtain⟨rfl,hd,ht,S',R,g2⟩:=h;exact bodyPost_ret (v:=U 0) (qi8 w' ht) hd ⟨by rw[B.out],S',.inr ⟨B.out,R⟩,g2⟩
 have q2:(d==D+1)=false:=by simp[J]
 have HR:Hid (qz S ⟨c,d,wall,o,f,g,l,n,ws⟩=false):=by show _=_;rw[HRE.out];simp[J]
 go_wp2_with fail
 refine wrl ?_
 repeat (go_big_quiet_step (first|rfl|fail))
 refine wpQuiet_nil ?_;rintro w4 ⟨⟨_,H⟩,rfl⟩
 all_goals
  have PM4:=hd1 (L.out.later H);have RB4:=hd1 (s.out.later H);have hbw4:=qa hbwr H;have Y:=hd1 (qa HBr.out H);obtain⟨P,W,e3,e4,e5⟩:=qf6 B.out
  have Z:waits.length<40\/false=true:=by
   refine .inl (Nat.lt_of_not_le λZ=>?_);have E:=B.out;rw[E0.out,if_neg (by have:=M.out;omega),if_pos ⟨Z,HR.out⟩]at E;cases E
  go_step;go_step
  refine wp_mono (qni w w4 PM4.out q.out.2.1 q.out.2.2.1 q.out.2.2.2 (HFR.out.later q.out.1 Y.out) HGL.out RB4.out (W1.later Y.out) sw (by have:=M.out;omega) (HI.out.wait P W e4) hbw4 (by have:=M.out;omega) Z) (λe a w' h=>?_);obtain⟨rfl,hd,ht,S',R,g2⟩:=h;exact bodyPost_ret (v:=U 0) (qi8 w' ht) hd ⟨by rw[B.out],S',.inr ⟨B.out,R⟩,g2⟩
theorem qvy (m:TxM) (w:World) (h:RS w b G F S) (a:j3 S) (c:S.waits.length<=900) (d:qr w m.wa m.wc m.t.ws):
 Ca 84 #[PP b,txV m] w λe w'=>e=.returned (U (jf S m.t))/\∃S',zu S m.t S'/\RPo w b G F S' w':=by
 by_cases f:jf S m.t=0
 ·exact qvk m w h a c d f
 exact qxa m w h a c d f
end
section
open Go.RowKit
theorem qq0 {α:Type} (f:Nat->α) (i:Nat):jj f i (f i)=f:=by
 funext j
 unfold jj;split
 ·rename_i e;rw[e]
 rfl
theorem qs4 (W:WoS) (i:Nat):setSite W i (W.S i)=W:=by
 unfold setSite;rw[qq0]
section
variable {w w':World} {b:Nat} {G:Nat->Prop} {F:Nat->Option Obj} {S:qe} {M:RoM} {W:WoS} {Gs:Nat->Nat->Prop}
theorem RWo.stepSm (h:RWo w b M W Gs) {i:Nat} (hi:i<W.n) {S':qe} {F':Nat->Option Obj} (d:∀k o,M.F i k=some o->F' k=some o) (l:RPo w (M.bp i) (Gs i) F' S' w'):∃a,RWo w' b {M with F:=jj M.F i F'} (setSite W i S') a/\(∀j k,a j k->Gs j k\/w.heap.size<=k)/\qc (Gs i) w w':=by
 obtain⟨a,f,g,m,r⟩:=h.fam.stepG (ps':=qdm {M with F:=jj M.F i F'} (setSite W i S')) (i:=i) (by omega) (p:=qek (M.bp i) F' S') l (by show (if i<W.n then _ else _)=_;rw[if_pos hi];show qek (M.bp i) (jj M.F i F' i) (jj W.S i S' i)=_;rw[qt,qt]) (λj s c=>by
  show (if j<W.n then qek (M.bp j) (jj M.F i F' j) (jj W.S i S' j)else _)=(if j<W.n then _ else _);rw[yq _ _ c,yq _ _ c]
  rfl)
 refine⟨a,h.keep m f (λj k o s e=>?_) rfl rfl rfl rfl rfl rfl,g,r⟩;by_cases q:j=i
 ·subst q;rw[qt];exact d k o e
 rw[yq _ _ q];exact e
theorem qc5.next {i w2:World} {W1 k:WoS} (h:qc5 w b M Gs W1 i) (f:∀d g,RWo i b {M with yv:=d,l:=g} W1 Gs->qc5 i b {M with yv:=d,l:=g} Gs k w2):qc5 w b M Gs k w2:=by
 obtain⟨d,g,n,m,a⟩:=h;obtain⟨o,p,t,u,c⟩:=f d g n;have s:=a.size;refine⟨o,p,t,λq e=>?_,⟨c.os.trans a.os,c.tape.trans a.tape,c.output.trans a.output,jcn s c.size,λq v j=>?_⟩⟩
 ·rcases u q e with r|r
  ·exact m q r
  exact .inr (by omega)
 refine(c.block q (by omega) (λe=>?_)).trans (a.block q v j);rcases e with e|e
 ·exact j (.inl e)
 rcases m q e with r|r
 ·exact j (.inr r)
 omega
theorem vu.know {lv wv sv:Value} {log waits:List TxM} (h:vu w b lv wv sv S log waits) {k:Nat} (e:k<4) (x0 x1 x2 x3:Int):
 vu ((((w.setCell (AD b (10+k*4)) (U (jd (S.oth (k*4)) x0))).setCell (AD b (10+k*4+1)) (U (jd (S.oth (k*4+1)) x1))).setCell (AD b (10+k*4+2)) (U (jd (S.oth (k*4+2)) x2))).setCell (AD b (10+k*4+3)) (U (jd (S.oth (k*4+3)) x3))) b lv wv sv (vp S k x0 x1 x2 x3) log waits:=by
 have a:(vz S lv wv sv).length=26:=rfl;have a1:=h.box.set (10+k*4) (U (jd (S.oth (k*4)) x0)) (by rw[a];omega);have a2:=a1.set (10+k*4+1) (U (jd (S.oth (k*4+1)) x1)) (by rw[List.length_set,a];omega);have a3:=a2.set (10+k*4+2) (U (jd (S.oth (k*4+2)) x2)) (by rw[List.length_set,List.length_set,a];omega);have c:=a3.set (10+k*4+3) (U (jd (S.oth (k*4+3)) x3)) (by rw[List.length_set,List.length_set,List.length_set,a];omega);refine h.cells (λj d=>?_) ?_ rfl
 ·rw[jce _ _ _ _ d,jce _ _ _ _ d,jce _ _ _ _ d,jce _ _ _ _ d]
 match k,e with
 |0,_=>exact c
 |1,_=>exact c
 |2,_=>exact c
 |3,_=>exact c
theorem RS.know (h:RS w b G F S) {k:Nat} (l:k<4) (x0 x1 x2 x3:Int):
 RPo w b G F (vp S k x0 x1 x2 x3) ((((w.setCell (AD b (10+k*4)) (U (jd (S.oth (k*4)) x0))).setCell (AD b (10+k*4+1)) (U (jd (S.oth (k*4+1)) x1))).setCell (AD b (10+k*4+2)) (U (jd (S.oth (k*4+2)) x2))).setCell (AD b (10+k*4+3)) (U (jd (S.oth (k*4+3)) x3))):=by
 obtain⟨lv,wv,sv,log,waits,g,m,n,i,p⟩:=h;have c:∀(w:World) (o:Nat) (u:Value),qc (λj=>j=b) w (w.setCell (AD b o) u):=λw o u=>qc.setCell w (AD b o) u rfl;have a:qc (λj=>j=b) w ((((w.setCell (AD b (10+k*4)) (U (jd (S.oth (k*4)) x0))).setCell (AD b (10+k*4+1)) (U (jd (S.oth (k*4+1)) x1))).setCell (AD b (10+k*4+2)) (U (jd (S.oth (k*4+2)) x2))).setCell (AD b (10+k*4+3)) (U (jd (S.oth (k*4+3)) x3))):=(((c _ _ _).trans (c _ _ _)).trans (c _ _ _)).trans (c _ _ _);refine⟨G,⟨lv,wv,sv,log,waits,g.know l x0 x1 x2 x3,m,n,i,p.touch g ⟨a.os,a.tape,a.output,a.size,λj d f=>a.block j d (λe=>f (.inl e))⟩ (λ_ q=>q)⟩,λ_ e=>.inl e,⟨a.os,a.tape,a.output,a.size,λj d f=>a.block j d (λe=>f ((i j).2 (.inl (.inl e))))⟩⟩
open Classical in
theorem qs9 (c d f g:Int) (w:World) (h:RS w b G F S) (l:j3 S):
 Ca 85 #[PP b,.agg #[U c,U d,U f,U g]] w λe w'=>∃v,e=.returned v/\∃(i:List TxM) (F':Nat->Option Obj),i.map (·.t)=qd6 S c d f g/\w'.ownsRow (w.heap.size+1) 102 9 v i.length (zw i)/\(∀m∈i,qr w' m.wa m.wc m.t.ws/\∀k,m.blk k->∃o,F' k=some o)/\(∀k o,F k=some o->F' k=some o)/\RS w b G F' S/\Bw w w':=by
 obtain⟨lv,wv,sv,log,waits,h,j,p,r,s⟩:=h
 have A:log.length=S.log.length:=by rw[<-j];simp
 refine(qpt c d f g w h (λm a=>(l.lsite m.t (by rw[<-j];exact jcz.2 ⟨m,a,rfl⟩)).1) (by have:=l.log;omega)).mono λe w' ⟨v,u,x,n⟩=>⟨v,u,log.filter (qcs c d f g),λk=>if ∃m∈log,m.blk k then w.heap[k]?else none,qrt j _ _ _ _,x,λm a=>?_,λk o e=>?_,⟨lv,wv,sv,log,waits,h,j,p,r,λk o e=>?_⟩,n⟩
 ·have a:=(jdq.1 a).1;have q:=(h.hold m (jcf.2 (.inl a))).1;exact⟨q.later n,λk e=>⟨_,(if_pos ⟨m,a,e⟩).trans (jde (q.blk_lt k e))⟩⟩
 ·obtain⟨y,m,a,z⟩:=s k o e;show (if _ then _ else _)=_;rw[if_pos ⟨m,a,z⟩];exact y
 have e:(if ∃m∈log,m.blk k then w.heap[k]?else none)=some o:=e;split at e
 ·rename_i q;exact⟨e,q⟩
 simp at e
end
end
section
open Go.RowKit
variable {w:World}
theorem q4t {a k:Nat} {S:qe} {lv wv sv:Value} (h:qd w a (vz S lv wv sv)) (c:k<4):w.cell? (AD a (10+k*4))=some (U (S.oth (k*4)))/\w.cell? (AD a (10+k*4+1))=some (U (S.oth (k*4+1)))/\w.cell? (AD a (10+k*4+2))=some (U (S.oth (k*4+2)))/\w.cell? (AD a (10+k*4+3))=some (U (S.oth (k*4+3))):=
 ⟨h.cell _ _ (by match k,c with|0,_=>rfl|1,_=>rfl|2,_=>rfl|3,_=>rfl),h.cell _ _ (by match k,c with|0,_=>rfl|1,_=>rfl|2,_=>rfl|3,_=>rfl),h.cell _ _ (by match k,c with|0,_=>rfl|1,_=>rfl|2,_=>rfl|3,_=>rfl),h.cell _ _ (by match k,c with|0,_=>rfl|1,_=>rfl|2,_=>rfl|3,_=>rfl)⟩
def jap (w:World) (b:Nat) (G:Nat->Prop) (W:WoS) (g:GrS) (e:Ending) (w':World):Prop:=e=.returned (.tuple #[])/\∃W',Hid (qeo W g W')/\qae w b G W' w'
variable {b:Nat} {G:Nat->Prop}
theorem qae.from {a w':World} {W':WoS} (c:Bw w a) (h:qae a b G W' w'):qae w b G W' w':=by
 obtain⟨d,e,f,g⟩:=h;have s:=c.size;exact⟨d,e,λk j=>(f k j).imp id (λq=>by omega),(qc.ofBelow c).trans g⟩
variable {W:WoS} {i:Nat}
theorem q29 (j f wall k l m o p:Int) (ws:List Wr) (a:Option Addr) (c:Nat) (w:World) (h:RW w b G W) (y:WfW W) (hi:i<W.n) (z:qr w a c ws) (X:0<f):
 Ca 37 #[PP b,.agg #[U i,U j,U f,U wall,U k,U l,U m,U o,U p,.slice a ws.length c,U 0,U 0,U 0,U 0,U 0]] w (jap w b G W ⟨i,.tx ⟨j,f,wall,k,l,m,o,p,ws⟩⟩):=by
 obtain⟨M,K,h,B⟩:=h;have C:=boxed (jcc _ w) (.cells #[U i,U j,U f,U wall,U k,U l,U m,U o,U p,.slice a ws.length c,U 0,U 0,U 0,U 0,U 0] 108);have r:=qd.new (w:=w) (T:=108) [U i,U j,U f,U wall,U k,U l,U m,U o,U p,.slice a ws.length c,U 0,U 0,U 0,U 0,U 0] rfl;change qd (w.nu #[U i,U j,U f,U wall,U k,U l,U m,U o,U p,.slice a ws.length c,U 0,U 0,U 0,U 0,U 0] 108) w.heap.size [U i,U j,U f,U wall,U k,U l,U m,U o,U p,.slice a ws.length c,U 0,U 0,U 0,U 0,U 0]at r;have D:=h.later C;obtain⟨g,cap,E,Y,Z,H⟩:=D.sitesAt hi;have L:=qb.cell E;have N:=qb.cell (H i hi);have O:=qb.cell (r.cell 0 _ rfl)
 have q1:(i:Int)<(W.n:Int):=by omega
 have hne:=qb.one;have q:=hd5 h B y hi z;clear h B H hi D z E y;go_enter Tryz.func37,Tryz.ntmps37
 go_wp2_with fail
 refine wrl ?_
 repeat (go_big_quiet_step (first|rfl|fail))
 refine wpQuiet_nil ?_;rintro I ⟨⟨_,J⟩,rfl⟩;have d:=r.later J;have u:=qa C J;have x:=q.out.1.later u
 have P:Hid (Ca 84 #[PP (M.bp i),.agg (List.toArray (T9 j f wall k l m o p a ws.length c))] I λe w'=>∃v,e=.returned v/\∃S',zu (W.S i) ⟨j,f,wall,k,l,m,o,p,ws⟩ S'/\RPo I (M.bp i) (K i) (M.F i) S' w'):=
  (qvy ⟨⟨j,f,wall,k,l,m,o,p,ws⟩,a,c⟩ _ (x.site q.out.2.2.2.1) (q.out.2.2.1.inv i q.out.2.2.2.1) (jcn (q.out.2.2.1.wt i q.out.2.2.2.1) (by omega)) (q.out.2.2.2.2.later u)).mono λe w' ⟨Q,S',s,t⟩=>⟨_,Q,S',s,t⟩
 have R:=hd1 x;have g0_:=d.cell 0 _ rfl;have g1_:=d.cell 1 _ rfl;have g2_:=d.cell 2 _ rfl;have g3_:=d.cell 3 _ rfl;have g4_:=d.cell 4 _ rfl;have g5_:=d.cell 5 _ rfl;have g6_:=d.cell 6 _ rfl;have g7_:=d.cell 7 _ rfl;have g8_:=d.cell 8 _ rfl;have g9_:=d.cell 9 _ rfl;clear x r L N O d
 go_wp2_with fail
 refine P.out.mono ?_;rintro e w4 ⟨v4,rfl,S',s,t⟩;have PP:=hd1 (qae.from u (R.out.stepS q.out.2.1 q.out.2.2.2.1 t));have V:=hd1 s;clear s t
 go_wp2_with fail
 go_end0;exact⟨rfl,_,⟨S',V.out,rfl⟩,PP.out⟩
theorem qxd (d f p x:Int) (w:World) (h:RW w b G W) (hw:WfW W) {o:Nat} (hi:i<W.n) (ho:o<W.n):
 Ca 37 #[PP b,.agg #[U i,U 0,U 0,U 0,U 0,U 0,U 0,U 0,U 0,.slice none 0 0,U o,U d,U f,U p,U x]] w λe w'=>e=.returned (.tuple #[])/\qae w b G (qbc W i o d f p x) w':=by
 obtain⟨M,Gs,h,hG⟩:=h;have hb1:=boxed (jcc _ w) (.cells #[U i,U 0,U 0,U 0,U 0,U 0,U 0,U 0,U 0,.slice none 0 0,U o,U d,U f,U p,U x] 108);have RG:=qd.new (w:=w) (T:=108) [U i,U 0,U 0,U 0,U 0,U 0,U 0,U 0,U 0,.slice none 0 0,U o,U d,U f,U p,U x] rfl;change qd (w.nu #[U i,U 0,U 0,U 0,U 0,U 0,U 0,U 0,U 0,.slice none 0 0,U o,U d,U f,U p,U x] 108) w.heap.size [U i,U 0,U 0,U 0,U 0,U 0,U 0,U 0,U 0,.slice none 0 0,U o,U d,U f,U p,U x]at RG;have H1:=h.later hb1;obtain⟨g,cap,c0,hcap,hg,hc⟩:=H1.sitesAt hi;have k0:=qb.cell c0;have Y:=qb.cell (hc i hi);have Z:=qb.cell (RG.cell 0 _ rfl);have hne:=qb.one
 have q1:(i:Int)<(W.n:Int):=by omega
 have n4:=hw.n4
 have q4:(o:Int)<4:=by omega
 have hk4:o<4:=by omega
 have hlt:=h.box.lt
 have XB:∃lv wv sv,qd w (M.bp i) (vz (W.S i) lv wv sv):=by
  obtain⟨lv,wv,sv,log,waits,hM,_⟩:=h.site hi;exact⟨lv,wv,sv,hM.box⟩
 obtain⟨lv,wv,sv,XB⟩:=XB;have xlt:=XB.lt;have HX:=hd1 XB;have B:=hd4 h hG hw hi;clear h hG hc hi H1 hw XB c0;go_enter Tryz.func37,Tryz.ntmps37
 go_wp2_with fail
 refine wrl ?_
 repeat (go_big_quiet_step (first|rfl|fail))
 refine wpQuiet_nil ?_;rintro w2 ⟨⟨_,hb2⟩,rfl⟩;have X:=RG.later hb2;have hbw:=qa hb1 hb2;have hbD:=hbw.drew;obtain⟨o0,o1,o2,o3⟩:=q4t (HX.out.later hbw) hk4;have xl2:=(HX.out.later hbw).lt;have gl2:=X.lt;have HR:=hd1 X;have g2_:=X.cell 2 _ rfl;have g10_:=X.cell 10 _ rfl;have g11_:=X.cell 11 _ rfl;have g12_:=X.cell 12 _ rfl;have g13_:=X.cell 13 _ rfl;have g14_:=X.cell 14 _ rfl;clear RG k0 Y Z X
 go_wp2_with fail
 go_region_law (refine je rfl 83 #[.agg #[U ((W.S i).oth (o*4)),U ((W.S i).oth (o*4+1)),U ((W.S i).oth (o*4+2)),U ((W.S i).oth (o*4+3))],.agg #[U d,U f,U p,U x]] (by go_simp) (qp0 _ _ _ _ d f p x _) ?_
                rintro e wa ⟨rfl,hba⟩;refine⟨_,rfl,?_⟩;have hbA:=qa hbD hba;have RGA:=HR.out.later (qa (jcc _ _).drew hba);have XA:=HX.out.later hbA;obtain⟨p0,p1,p2,p3⟩:=q4t XA hk4;have f0:=XA.free (10+o*4) (by simp[vz];omega);have f1:=XA.free (10+o*4+1) (by simp[vz];omega);have f2:=XA.free (10+o*4+2) (by simp[vz];omega);have f3:=XA.free (10+o*4+3) (by simp[vz];omega)
                have e10:=RGA.cell 10 _ rfl)
 all_goals
  have HA:=B.out.1.later hbA;obtain⟨Gs2,K2,hsub,tt2⟩:=HA.stepSm (F':=M.F i) B.out.2.2.2 (λ_ _ e=>e) ((HA.site B.out.2.2.2).know hk4 d f p x);obtain⟨WB,hWB⟩:∃WB,(((wa.setCell (AD (M.bp i) (10+o*4)) (U (jd ((W.S i).oth (o*4)) d))).setCell (AD (M.bp i) (10+o*4+1)) (U (jd ((W.S i).oth (o*4+1)) f))).setCell (AD (M.bp i) (10+o*4+2)) (U (jd ((W.S i).oth (o*4+2)) p))).setCell (AD (M.bp i) (10+o*4+3)) (U (jd ((W.S i).oth (o*4+3)) x))=WB:=⟨_,rfl⟩;rw[hWB]at K2 tt2 ⊢;rw[qq0]at K2;have hS2:(setSite W i (vp (W.S i) o d f p x)).S i=vp (W.S i) o d f p x:=qt _ _ _;have RGB:=RGA.kept (tt2.block _ RGA.lt (λe=>by have:=B.out.1.ltG (by have:=B.out.2.2.2;omega) e;omega)) tt2.size;have MS:=qs9 d f p x WB (K2.site (i:=i) B.out.2.2.2) (by rw[hS2];exact(B.out.2.2.1.inv i B.out.2.2.2).knows _);rw[show qd6 ((setSite W i (vp (W.S i) o d f p x)).S i) d f p x=qd6 (W.S i) d f p x by rw[hS2];rfl]at MS;have HK:Hid (RWo WB b M (setSite W i (vp (W.S i) o d f p x)) Gs2/\(∀j k,Gs2 j k->Gs j k\/w.heap.size<=k)/\qc G w WB/\w.heap.size<=WB.heap.size):=⟨K2,λj k e=>(hsub j k e).elim .inl (λq=>.inr (by have:=hbA.size;omega)),(qc.ofBelow hbA).more tt2 (λk e=>.inl ((B.out.2.1 k).2 (.inr ⟨i,by have:=B.out.2.2.2;omega,e⟩))),by have:=hbA.size;have:=tt2.size;omega⟩;clear o0 o1 o2 o3 g2_ g10_ g11_ g12_ g13_ g14_ K2 hsub tt2 HA hba hbA RGA XA p0 p1 p2 p3 f0 f1 f2 f3 e10 hS2 hWB;have g11_:=RGB.cell 11 _ rfl;have g12_:=RGB.cell 12 _ rfl;have g13_:=RGB.cell 13 _ rfl;have g14_:=RGB.cell 14 _ rfl;have HB:=hd1 RGB;clear RGB
  go_wp2_with fail
  refine MS.mono ?_;rintro e P ⟨v,rfl,y,F',Y,Z,k3,kF,kR,k4⟩;obtain⟨ma,mc,hv,hMx⟩:=yx Z;subst hv;obtain⟨Gs3,K3,hsub3,tt3⟩:=HK.out.1.stepSm (F':=F') B.out.2.2.2 kF (RPo.same kR k4);rw[qs4]at K3
  have hkl:y.length<=200:=by
   have e1:=congrArg List.length Y;have e2:(qd6 (W.S i) d f p x).length<=(W.S i).log.length:=jdo _ _;have e3:=(B.out.2.2.1.inv i B.out.2.2.2).log;simp at e1;omega
  have hml:=hMx.len;have hmc:=hMx.cap;obtain⟨L,hM3,eb,ey⟩:∃L:RoM,L={M with F:=jj M.F i F'}/\(∀k,ql b L k↔ql b M k)/\L.yv=M.yv:=⟨_,rfl,λ_=>jdl,rfl⟩
  have hF3:∀m∈y,∀k,m.blk k->∃o,L.F i k=some o:=λm R k e=>by
   rw[hM3];show ∃o,jj M.F i F' i k=some o;rw[qt];exact(k3 m R).2 k e
  rw[<-hM3]at K3
  have N:=hd9 hMx Y (show (∀m∈y,qr P m.wa m.wc m.t.ws/\∀k,m.blk k->∃o,L.F i k=some o)from λm R=>⟨(k3 m R).1,hF3 m R⟩) (show (∀k off,ma=some (AD k off)->y≠[]->w.heap.size<=k)from λk off e hn=>by
   rcases Z.2 with ⟨q,h0⟩|⟨g,cap,cur,q,hb9,_⟩
   ·exact absurd (jc2 h0) hn
   injection q with q1 q2 q3;rw[e]at q1;injection q1 with q1;injection q1 with q1;have:=HK.out.2.2.2
   omega) K3 k4 (λj k e=>(hsub3 j k e).elim (HK.out.2.1 j k) (λq=>.inr (by have:=HK.out.2.2.2;omega))) eb (HB.out.later k4)
  clear MS g11_ g12_ g13_ g14_ Y Z k3 k4 kF kR K3 hMx hsub3 tt3 hF3 hM3 ey eb HB
  go_wp2_with fail
  go_loopw [44] (λiv wr=>∃(k:Nat) (z:Int),k<=y.length/\z=k/\iv=U z/\Hid (qc5 P b L Gs3 (zl o ((y.map (·.t)).take k) (setSite W i (vp (W.S i) o d f p x))) wr)) (λiv _=>y.length-(intOf iv).toNat)
  case atStart=>exact⟨0,0,by omega,rfl,rfl,qc5.none N.out.2.2.2.2.1 (jcc _ _)⟩
  obtain⟨k,z,hk,hz,rfl,HS⟩:=hrel;have HZ:=hd1 hz;by_cases hlt2:k<y.length
  ·have g1:z<(y.length:Int):=by omega
   have g2:z.toNat=k:=by omega
   have g3:0<=z:=by omega
   have g4:z<200:=by omega
   clear hz
   obtain⟨O,Q,haa,hcc⟩:∃b off,ma=some (AD b off)/\∀i m r u,y[i]?=some m->(txC m)[r]?=some u->P.cell? (AD b (off+(i*9+r)))=some u:=by
        rcases N.out.1.held with h0|h0
        ·rw[h0]at hlt2;simp at hlt2
        exact h0
   have hne:y≠[]:=λe=>by rw[e]at hlt2;simp at hlt2
   have hab:=N.out.2.2.2.1 O Q haa hne;subst haa;have ltb:=λq e=>B.out.1.ltF q ((N.out.2.2.2.2.2.2.2.1 q).1 e)
   have kp:∀q,w.heap.size<=q->q<P.heap.size->wr.heap[q]?=P.heap[q]?:=λq hq hq3=>by
        obtain⟨_,_,_,_,tt⟩:=HS.out;refine tt.block q hq3 (λe=>?_)
        have:ql b L q:=by
         rcases e with e|e
         ·rw[e];simp[ql,vx]
         unfold ql vx;rw[e];simp
        have:=ltb q this;omega
   have hs3:P.heap.size<=wr.heap.size:=by
        obtain⟨_,_,_,_,tt⟩:=HS.out;exact tt.size
   have RGr:=N.out.2.2.2.2.2.2.2.2.kept (kp _ (jcd _) N.out.2.2.2.2.2.2.2.2.lt) hs3;obtain⟨⟨⟨C,D,wall,E,H,I,J,K,ws⟩,a,c⟩,R⟩:∃m,y[k]?=some m:=⟨_,jcg hlt2⟩;have hab3:O<P.heap.size:=jcr _ _ (hcc k _ 0 _ R rfl)
   have V:∀r u,(txC ⟨⟨C,D,wall,E,H,I,J,K,ws⟩,a,c⟩)[r]?=some u->wr.cell? (AD O (Q+(k*9+r)))=some u:=λr u hu=>by rw[jch (w:=P) (kp O hab hab3)];exact hcc k _ r u R hu
   have x0:wr.cell? (AD O (Q+k*9))=some (U C):=V 0 _ rfl;have x1:wr.cell? (AD O (Q+k*9+1))=some (U D):=V 1 _ rfl;have x2:wr.cell? (AD O (Q+k*9+2))=some (U wall):=V 2 _ rfl;have x3:wr.cell? (AD O (Q+k*9+3))=some (U E):=V 3 _ rfl;have x4:wr.cell? (AD O (Q+k*9+4))=some (U H):=V 4 _ rfl;have x5:wr.cell? (AD O (Q+k*9+5))=some (U I):=V 5 _ rfl;have x6:wr.cell? (AD O (Q+k*9+6))=some (U J):=V 6 _ rfl;have x7:wr.cell? (AD O (Q+k*9+7))=some (U K):=V 7 _ rfl;have x8:wr.cell? (AD O (Q+k*9+8))=some (.slice a ws.length c):=V 8 _ rfl;have hmem:=jcq R
   have HT:Hid (zl o ((y.map (·.t)).take (k+1)) (setSite W i (vp (W.S i) o d f p x))=if C=(o:Int)then zl o ((y.map (·.t)).take k) (setSite W i (vp (W.S i) o d f p x))else zk (zl o ((y.map (·.t)).take k) (setSite W i (vp (W.S i) o d f p x))) ⟨o,.tx ⟨C,D,wall,E,H,I,J,K,ws⟩⟩):=by
        show _=_;rw[jdu,jcv,R];exact qjr o ⟨C,D,wall,E,H,I,J,K,ws⟩ _ _
   have bx:=boxed (jcc _ wr) (.cells (List.toArray (T9 C D wall E H I J K a ws.length c)) 102);have RX:=qd.new (w:=wr) (T:=102) (T9 C D wall E H I J K a ws.length c) rfl;change qd (wr.nu (List.toArray (T9 C D wall E H I J K a ws.length c)) 102) wr.heap.size (T9 C D wall E H I J K a ws.length c)at RX;have r10:=(RGr.later bx).cell 10 _ rfl;obtain⟨t0,t1,t2,t3,t4,t5,t6,t7,t8⟩:=RX.c9;have lr:=RGr.lt;have HQ:Hid (qr P a c ws/\∀k,(⟨⟨C,D,wall,E,H,I,J,K,ws⟩,a,c⟩:TxM).blk k->∃o,L.F i k=some o):=N.out.2.2.1 _ hmem;clear hcc V kp ltb R hmem hab hab3 hne RGr;by_cases hs:C=(o:Int)
   ·subst hs;have HT2:=hd1 (HT.out.trans (if_pos rfl))
    go_wp2_with fail
    go_roundw
    case rel=>exact⟨k+1,z+1,by omega,by have:=HZ.out;omega,by go_num,by show qc5 _ _ _ _ _ _;rw[HT2.out];exact HS.out.next (λnv l hP=>qc5.none hP (boxed (jcc _ wr) _))⟩
    simp[intOf];have:=HZ.out;omega
   have HT2:=hd1 (HT.out.trans (if_neg hs));have sm:=qds o ((y.map (·.t)).take k) (setSite W i (vp (W.S i) o d f p x))
   have SX:Hid (Ca 82 #[PP b,.agg #[U o,U C,U D,U wall,U E,U H,U I,U J,U K,.slice a ws.length c,U 0,U 0,U 0,U 0,U 0]] (wr.nu (List.toArray (T9 C D wall E H I J K a ws.length c)) 102) λe w'=>e=.returned (.tuple #[])/\qc5 P b L Gs3 (zk (zl o ((y.map (·.t)).take k) (setSite W i (vp (W.S i) o d f p x))) ⟨o,.tx ⟨C,D,wall,E,H,I,J,K,ws⟩⟩) w'):=by
        obtain⟨yv',l',h1,h2,tt⟩:=HS.out.next (λnv l hP=>qc5.none hP bx)
        have ok:GrR.Ok (wr.nu (List.toArray (T9 C D wall E H I J K a ws.length c)) 102) (zl o ((y.map (·.t)).take k) (setSite W i (vp (W.S i) o d f p x))).n L.F ⟨⟨o,.tx ⟨C,D,wall,E,H,I,J,K,ws⟩⟩,a,c⟩:=by
         have hin:i<(zl o ((y.map (·.t)).take k) (setSite W i (vp (W.S i) o d f p x))).n:=by rw[sm.n];exact B.out.2.2.2
         refine⟨qr.kept (m:=⟨⟨C,D,wall,E,H,I,J,K,ws⟩,a,c⟩) HQ.out.1 (λq e=>?_),λq e=>?_,λ_ _ _ _ _ e=>by simp at e⟩
         ·obtain⟨ob,hob⟩:=HQ.out.2 q e;exact((h1.site hin).frozen hob).trans ((N.out.2.2.2.2.1.site (i:=i) B.out.2.2.2).frozen hob).symm
         obtain⟨ob,hob⟩:=HQ.out.2 q e;exact⟨i,ob,hin,hob⟩
        refine(qlu _ h1 ⟨⟨o,.tx ⟨C,D,wall,E,H,I,J,K,ws⟩⟩,a,c⟩ ok rfl).mono λe w' ⟨he,hS⟩=>⟨he,?_⟩;have s:=tt.size;obtain⟨yv2,l2,g1',g2',gt⟩:=hS;refine⟨yv2,l2,g1',λq e=>(g2' q e).elim (h2 q) (λr=>.inr (by omega)),tt.more gt (λq e=>?_)⟩;exact e.elim (λr=>.inl (.inl r)) (λr=>(h2 q r).imp .inr id)
   go_wp2_with fail
   refine SX.out.mono ?_;rintro e w5 ⟨rfl,hS⟩;have SN:=hd1 hS;clear SX hS sm x0 x1 x2 x3 x4 x5 x6 x7 x8 t0 t1 t2 t3 t4 t5 t6 t7 t8 RX
   go_wp2_with fail
   go_roundw
   case rel=>exact⟨k+1,z+1,by omega,by have:=HZ.out;omega,by go_num,by show qc5 _ _ _ _ _ _;rw[HT2.out];exact SN.out⟩
   simp[intOf];have:=HZ.out;omega
  have g1:¬z<(y.length:Int):=by omega
  have e:k=y.length:=by omega
  go_wp2_with fail
  go_end0;have S9:=HS.out;rw[e,show ((y.map (·.t)).take y.length)=qd6 (W.S i) d f p x by rw[<-N.out.2.1];exact List.take_of_length_le (by simp)]at S9;have sm:=qds o (qd6 (W.S i) d f p x) (setSite W i (vp (W.S i) o d f p x));have P1:qae P b (qg6 b L (W.n+W.c) Gs3) (qbc W i o d f p x) wr:=S9.post (W:=W) (λ_=>jdl) sm.n sm.c;obtain⟨G5,Y,Z,kt⟩:=P1;have hs:=HK.out.2.2.1.size;have hs2:=N.out.2.2.2.2.2.1.size
  have sub:∀q,qg6 b L (W.n+W.c) Gs3 q->G q\/w.heap.size<=q:=λq hq=>by
   rcases hq with r|⟨j,hj,r⟩
   ·exact .inl ((B.out.2.1 q).2 (.inl ((N.out.2.2.2.2.2.2.2.1 q).1 r)))
   exact(N.out.2.2.2.2.2.2.1 j q r).imp (λr2=>(B.out.2.1 q).2 (.inr ⟨j,hj,r2⟩)) id
  exact⟨rfl,G5,Y,λq hq=>(Z q hq).elim (sub q) (λr=>.inr (by omega)),(HK.out.2.2.1.trans (qc.ofBelow N.out.2.2.2.2.2.1)).more kt sub⟩
theorem qzo (x:GrR) (w:World) (h:RW w b G W) (d:WfW W) (f:x.g.to<W.n) (k:qr w x.m.wa x.m.wc x.m.t.ws) (l:∀s a0 a1 a2 a3,x.g.body=.ask s a0 a1 a2 a3->x.wa=none/\x.wc=0) (j:q69 W.n x.g):
 Ca 37 #[PP b,.agg (qbj x).toArray] w (jap w b G W x.g):=by
 obtain⟨⟨y,p⟩,a,c⟩:=x;cases p with
 |tx t=>exact q29 t.site t.seq t.wall t.count t.d0 t.d1 t.d2 t.d3 t.ws a c w h d f k (by have:okT t=true:=j;have:=(qcg this).2.1;omega)
 |ask s v0 v1 v2 v3=>
  obtain⟨q,r⟩:0<=s/\s<(W.n:Int):=j;obtain⟨o,rfl⟩:∃o:Nat,s=o:=⟨s.toNat,by omega⟩;obtain⟨rfl,rfl⟩:a=none/\c=0:=l _ _ _ _ _ rfl;refine(qxd v0 v1 v2 v3 w h d f (o:=o) (by omega)).mono λe w' ⟨u,v⟩=>⟨u,_,?_,v⟩;show (if 0<=(o:Int)/\(o:Int)<(W.n:Int)then _ else _);rw[if_pos ⟨q,r⟩];rfl
end
section
open Go.RowKit
variable {w w1:World} {b:Nat} {G:Nat->Prop}
theorem qae.bind {w2:World} {W1 c:WoS} (h:qae w b G W1 w1) (f:∀a,RW w1 b a W1->qae w1 b a c w2):qae w b G c w2:=by
 obtain⟨a,j,d,e⟩:=h;obtain⟨k,p1,p2,p3⟩:=f a j;have s:=e.size;exact⟨k,p1,λq l=>(p2 q l).elim (d q) (λr=>.inr (by omega)),e.more p3 d⟩
def jbq (w:World) (b:Nat) (G:Nat->Prop) (W:WoS) (i:Nat) (g:GrS) (e:Ending) (w':World):Prop:=
 ∃x:GrR,e=.returned (.agg (qbj x).toArray)/\x.g=g/\Hid (qr w' x.m.wa x.m.wc x.m.t.ws/\(∀s a0 a1 a2 a3,x.g.body=.ask s a0 a1 a2 a3->x.wa=none/\x.wc=0)/\qae w b G (qai W i) w')
variable {W:WoS} {i:Nat} {g:GrS}
theorem qzc (w:World) (h:RW w b G W) (c:W.net.length<=300) (hi:W.net[i]?=some g):
 Ca 38 #[PP b,U i] w (jbq w b G W i g):=by
 obtain⟨M,A,h,r⟩:=h
 have B:M.l.length=W.net.length:=by rw[<-h.nl];simp
 have s:i<M.l.length:=by have:=(jck.1 hi).1;omega
 obtain⟨x,d⟩:∃x,M.l[i]?=some x:=⟨_,jcg s⟩
 have t:x.g=g:=by
  have:=hi;rw[<-h.nl,jcv,d]at this;exact jcu this
 have f:=h.gr x (jcq d);refine(q95 w h c d rfl).mono λe w' ⟨u,v,n,y,a⟩=>⟨x,u,t,?_,f.none,?_⟩
 ·refine f.wi.kept (m:=x.m) (λk e=>?_);obtain⟨j,o,p,q⟩:=f.fr k e;exact((n.site (i:=j) p).frozen q).trans ((h.site p).frozen q).symm
 exact qc5.post (W:=W) ⟨v,M.l.eraseIdx i,n,λk e=>.inr (y k e),⟨a.os,a.tape,a.output,a.size,λk z c=>a.block k z (λe=>c (.inl e))⟩⟩ r rfl rfl
theorem qwm {x:GrR} (c:WfW W) (j:qeq W) (hi:W.net[i]?=some g) (a:x.g=g) (h:Hid (qr w1 x.m.wa x.m.wc x.m.t.ws/\(∀s a0 a1 a2 a3,x.g.body=.ask s a0 a1 a2 a3->x.wa=none/\x.wc=0)/\qae w b G (qai W i) w1)):
 Ca 37 #[PP b,.agg (qbj x).toArray] w1 λe w'=>e=.returned (.tuple #[])/\∃W',Hid (zy W i W')/\qae w b G W' w':=by
 have d:=jcq hi;have v:=h.out.2.2;obtain⟨y,k,s1,f⟩:=h.out.2.2;refine(qzo x w1 k (c.drop i) (by rw[a];exact c.to g d) h.out.1 h.out.2.1 (by rw[a];exact j g d)).mono λe w' ⟨l,W',n,o⟩=>⟨l,W',⟨g,hi,by rw[<-a];exact n.out⟩,?_⟩;obtain⟨p,p1,p2,p3⟩:=o;have s:=f.size;exact⟨p,p1,λq u=>(p2 q u).elim (s1 q) (λr=>.inr (by omega)),f.more p3 s1⟩
theorem qt9 {cb:Nat} (w:World) (h:RW w b G W) (E:WfW W) (F:qeq W) (o:w.cell? (AD cb 0)=some (PP b)) (v:¬G cb):
 Ca 89 #[PP cb] w λe w'=>e=.returned (.tuple #[])/\∃W',Hid (qaf W W'/\WfW W'/\qeq W')/\qae w b G W' w':=by
 have p:=hd5 h E F o v;have H:cb<w.heap.size:=jcr _ _ o
 have y:Hid (∀w',qc G w w'->w'.cell? (AD cb 0)=some (PP b)):=λw' d=>by rw[jch (w:=w) (d.block cb H v)];exact o
 go_enter Tryz.func89,Tryz.ntmps89
 go_wp2_with fail
 go_loopg [1] (qjh W.net) (λk _ wr=>∃W1:WoS,qjh W1.net<=k/\Hid (WfW W1/\qeq W1/\qae w b G W1 wr/\∀W',qaf W1 W'->qaf W W'))
 case atStart=>exact⟨W,jcd _,p.out.2.1,p.out.2.2.1,qae.same p.out.1 (jcc _ _),λ_ h=>h⟩
 obtain⟨W1,V,a⟩:=hrel
 have X:wr.cell? (AD cb 0)=some (PP b):=by
  obtain⟨_,_,_,d⟩:=a.out.2.2.1;exact y.out wr d
 obtain⟨I,z,s1,J⟩:=a.out.2.2.1;have f:=hd3 (show RW wr b I W1 from z) s1 J;obtain⟨M,Y,m,Z⟩:=z
 have K:M.l.length=W1.net.length:=by rw[<-m.nl];simp
 obtain⟨na,nc,L,r⟩:=qq m.yr;have N:=m.box.cell 4 _ rfl;rw[L]at N;have hrc:=r.cap;have hrl:=r.len;have hlt:=m.box.lt;by_cases j:W1.net=[]
 ·have q:¬0<(M.l.length:Int):=by rw[K,j];simp
  go_wp2_with fail
  go_end0;exact⟨rfl,W1,⟨a.out.2.2.2 W1 (.none j),a.out.1,a.out.2.1⟩,a.out.2.2.1⟩
 obtain⟨g,B⟩:∃g,W1.net[0]?=some g:=by
  cases hn:W1.net with
  |nil=>exact absurd hn j
  |cons x r=>exact⟨x,rfl⟩
 have q:0<(M.l.length:Int):=by
  have:W1.net.length≠0:=λe=>j (jc2 e);omega
 have C:=hd2 (show W1.net≠[]from j) B
 have O:Hid (∀w',Bw wr w'->Ca 38 #[PP b,U 0] w' (jbq w b G W1 0 g)):=λw' t=>(qzc (i:=0) w' (f.out.1.later t) a.out.1.net B).mono λe w2 ⟨x,P,u,c⟩=>⟨x,P,u,c.out.1,c.out.2.1,by
  obtain⟨Q,p1,p2,p3⟩:=c.out.2.2;have s:=f.out.2.2.size;have s2:=t.size
  exact⟨Q,p1,λq R=>(p2 q R).elim (f.out.2.1 q) (λr=>.inr (by omega)),(f.out.2.2.trans (qc.ofBelow t)).more p3 f.out.2.1⟩⟩
 go_wp2_with fail
 go_region_law (first
  |(refine qah rfl 38 rfl #[PP b,U 0] (by go_simp) (O.out _ (jcc _ _).drew) ?_
    rintro e w2 ⟨x,rfl,u,c⟩;refine⟨_,rfl,?_⟩
    have c92:w2.cell? (AD cb 0)=some (PP b):=by
        obtain⟨_,_,_,d⟩:=c.out.2.2
        exact y.out w2 d)
  |(refine qah rfl 37 rfl #[PP b,.agg (qbj x).toArray] (by go_simp) (qwm a.out.1 a.out.2.1 C.out.2 u c) ?_
    rintro e w3 ⟨rfl,D,n,S⟩
    refine⟨_,rfl,?_⟩))
 all_goals
  have wt:=qjk a.out.1 n.out
  go_wp2_with fail
  go_roundg (qjh D.net)
  case measure=>omega
  exact⟨D,jcd _,a.out.1.deliver n.out,a.out.2.1.deliver a.out.1 n.out,S,λW' T=>a.out.2.2.2 W' (.step C.out.1 n.out T)⟩
end
section
open Go.RowKit
variable {w:World} {b:Nat} {G:Nat->Prop} {W:WoS}
theorem RW.len0 (h:RW w b G W):∃a cap,w.cell? (AD b 0)=some (.slice a W.n cap)/\b<w.heap.size:=by
 obtain⟨M,g,h,_⟩:=h;obtain⟨d,e,f,r⟩:=qq h.sr;have c:=h.box.cell 0 _ rfl;rw[f]at c;exact⟨d,e,c,h.box.lt⟩
theorem qae.get {w':World} {W':WoS} (h:qae w b G W' w'):∃a,RW w' b a W':=by
 obtain⟨a,c,_⟩:=h;exact⟨a,c⟩
theorem q8g (w:World) (h:RW w b G W) (M:WfW W) (hN:qeq W):
 Ca 41 #[PP b] w λe w'=>e=.returned (.tuple #[])/\∃W',Hid (qg9 W W'/\WfW W'/\qeq W')/\qae w b G W' w':=by
 have N:=boxed (jcc _ w) (.cells #[PP b] 44);have v:=qd.new (w:=w) (T:=44) (n:=w.heap.size) [PP b] rfl;change qd (w.alloc (.cells #[PP b] 44)) w.heap.size [PP b]at v;have C:=h.lt;have l:Hid (∀w',qc G (w.alloc (.cells #[PP b] 44)) w'->w'.cell? (AD w.heap.size 0)=some (PP b)):=λw' g=>(v.kept (g.block _ v.lt (λe=>by have:=C _ e;omega)) g.size).cell 0 _ rfl;have O:=v.cell 0 _ rfl;have P:=qt9 _ (h.later N) M hN O (λe=>by have:=C _ e;omega);have Q:=hd1 M.n4
 have NG:Hid (¬G w.heap.size):=λe=>by have:=C _ e;omega
 have R:Hid (∀W' w',qae (w.alloc (.cells #[PP b] 44)) b G W' w'->qae w b G W' w'):=λW' w' D=>qae.from N D;obtain⟨w0,E⟩:∃w0,w.alloc (.cells #[PP b] 44)=w0:=⟨_,rfl⟩;obtain⟨cb,S⟩:∃cb,w.heap.size=cb:=⟨_,rfl⟩
 have BRX:Hid (∀j W1,WfW W1->qeq W1->qae w0 b G W1 j->Ca 89 #[PP cb] j λe w'=>e=.returned (.tuple #[])/\∃W',Hid (qaf W1 W'/\WfW W'/\qeq W')/\qae w0 b G W' w'):=λj W1 h1 h2 D=>by
  obtain⟨G1,a1,a2,a3⟩:=D;have s:=a3.size;rw[<-E]at a2 a3 s ⊢;rw[<-S];refine(qt9 j a1 h1 h2 (l.out j a3) (λe=>?_)).mono λe w' ⟨F,W',hB,p⟩=>⟨F,W',hB,?_⟩
  ·rcases a2 _ e with r|r
   ·exact NG.out r
   simp at r;omega
  obtain⟨V,p1,p2,p3⟩:=p;exact⟨V,p1,λq H=>(p2 q H).elim (a2 q) (λr=>.inr (by omega)),a3.more p3 a2⟩
 rw[E,S]at P O l;rw[E]at R;go_enter Tryz.func41,Tryz.ntmps41
 go_wp2_with fail
 refine P.mono ?_;rintro e j ⟨rfl,W1,x,p⟩;have I:=hd1 p;obtain⟨G1,P1⟩:=I.out.get;obtain⟨pa,pc,J,hbl⟩:=P1.len0;have X:=x.out.1.keep.n;rw[X]at J;have Y:=hd1 X
 have Z:j.cell? (AD cb 0)=some (PP b):=by
  obtain⟨_,_,_,g⟩:=I.out;exact l.out j g
 go_wp2_with fail
 go_loopw [13] (λiv wr=>∃(k:Nat) (z:Int) (f:WoS),k<=W.n/\z=k/\iv=U z/\Hid (WfW f/\f.n=W.n/\qc1 k W1 f/\qae w0 b G f wr/\qeq f)) (λiv _=>W.n-(intOf iv).toNat)
 case atStart=>exact⟨0,0,W1,by omega,rfl,rfl,x.out.2.1,Y.out,.zero,I.out,x.out.2.2⟩
 obtain⟨k,z,f,hk,hz,rfl,c⟩:=hrel;have t:=hd1 hz;by_cases aa:k<W.n
 ·have g1:z<(W.n:Int):=by omega
  have g3:0<=z:=by omega
  have g4:z<4:=by have:=Q.out;omega
  obtain⟨V,P2⟩:=c.out.2.2.2.1.get;obtain⟨pa2,pc2,J,hbl⟩:=P2.len0;rw[c.out.2.1]at J
  have Z:wr.cell? (AD cb 0)=some (PP b):=by
   obtain⟨_,_,_,g⟩:=c.out.2.2.2.1;exact l.out wr g
  go_wp2_with fail
  go_loopw [21] (λK wr=>∃(m:Nat) (y:Int) (d:WoS),m<=W.n/\y=m/\K=U y/\Hid (WfW d/\d.n=W.n/\qdo k m f d/\qae w0 b G d wr/\qeq d)) (λK _=>W.n-(intOf K).toNat)
  case atStart=>exact⟨0,0,f,by omega,rfl,rfl,c.out.1,c.out.2.1,.zero,c.out.2.2.2.1,c.out.2.2.2.2⟩
  obtain⟨m,y,d,hm,hy,rfl,a⟩:=hrel;have u:=hd1 hy;by_cases hml:m<W.n
  ·have f1:y<(W.n:Int):=by omega
   have f3:0<=y:=by omega
   have f4:y<4:=by have:=Q.out;omega
   have Z:wr.cell? (AD cb 0)=some (PP b):=by
        obtain⟨_,_,_,g⟩:=a.out.2.2.2.1;exact l.out wr g
   by_cases ab:m=k
   ·have f5:z=y:=by have:=t.out;omega
    subst f5
    go_wp2_with fail
    go_roundw
    case rel=>exact⟨m+1,z+1,d,by omega,by have:=u.out;omega,by go_num,a.out.1,a.out.2.1,.self a.out.2.2.1 ab,a.out.2.2.2⟩
    simp[intOf];have:=u.out;omega
   have f5:¬z=y:=by have:=t.out;omega
   have AK:Hid (Ca 36 #[PP b,U z,U y] wr λe w'=>e=.returned (.tuple #[])/\qae w0 b G (qme d k m) w'):=by
        obtain⟨G3,P3,s3,t3⟩:=a.out.2.2.2.1;have:=q5z wr P3 (i:=k) (o:=m) (by rw[a.out.2.1];exact aa);rw[<-t.out,<-u.out]at this;refine this.mono λe w' ⟨F,p⟩=>⟨F,?_⟩;obtain⟨Gx,p1,p2,p3⟩:=p;have s:=t3.size;exact⟨Gx,p1,λq H=>(p2 q H).elim (s3 q) (λr=>.inr (by omega)),t3.more p3 s3⟩
   have L:=hd3 (show m≠k from ab) aa hml
   go_wp2_with fail
   refine AK.out.mono ?_;rintro e w4 ⟨rfl,hP4⟩;have WA:WfW (qme d k m):=a.out.1.send (by show m<d.n;rw[a.out.2.1];exact L.out.2.2);have NA:qeq (qme d k m):=a.out.2.2.2.2.send (by show 0<=(k:Int)/\(k:Int)<(d.n:Int);rw[a.out.2.1];have:=L.out.2.1;omega);have BR2:=hd1 (BRX.out w4 _ WA NA hP4)
   go_wp2_with fail
   refine BR2.out.mono ?_;rintro e w5 ⟨rfl,W5,B,hP5⟩
   go_wp2_with fail
   go_roundw
   case rel=>exact⟨m+1,y+1,W5,by omega,by have:=u.out;omega,by go_num,B.out.2.1,(B.out.1.keep.n.trans (yb _ _).n).trans a.out.2.1,.ask a.out.2.2.1 L.out.1 B.out.1,hP5,B.out.2.2⟩
   simp[intOf];have:=u.out;omega
  have f1:¬y<(W.n:Int):=by omega
  have e:m=W.n:=by omega
  go_wp2_with fail
  go_roundw
  case rel=>exact⟨k+1,z+1,d,by omega,by have:=t.out;omega,by go_num,a.out.1,a.out.2.1,.next c.out.2.2.1 (by rw[c.out.2.1,<-e];exact a.out.2.2.1),a.out.2.2.2⟩
  simp[intOf];have:=t.out;omega
 have g1:¬z<(W.n:Int):=by omega
 have e:k=W.n:=by omega
 go_wp2_with fail
 go_end0;exact⟨rfl,f,⟨⟨W1,x.out.1,by rw[Y.out,<-e];exact c.out.2.2.1⟩,c.out.1,c.out.2.2.2.2⟩,R.out _ _ c.out.2.2.2.1⟩
end
section
open Go.RowKit
theorem qkn (x a s:Int):qm (qm x a) s=qm (qm x s) a:=by unfold qm;repeat' split<;>omega
def dwV (W:WoS) (k j:Nat):V4:=⟨qm (swV W k j).v0 (W.S k).a0,qm (swV W k j).v1 (W.S k).a1,qm (swV W k j).v2 (W.S k).a2,qm (swV W k j).v3 (W.S k).a3⟩
variable {W:WoS} {k j:Nat}
theorem q9r (h:W.at_ j=k/\(W.ses j).opn=true):dwV W k (j+1)=⟨qm (dwV W k j).v0 (W.ses j).s0,qm (dwV W k j).v1 (W.ses j).s1,qm (dwV W k j).v2 (W.ses j).s2,qm (dwV W k j).v3 (W.ses j).s3⟩:=by
 have e:swV W k (j+1)=⟨qm (swV W k j).v0 (W.ses j).s0,qm (swV W k j).v1 (W.ses j).s1,qm (swV W k j).v2 (W.ses j).s2,qm (swV W k j).v3 (W.ses j).s3⟩:=if_pos h;unfold dwV;rw[e,qkn,qkn _ (W.S k).a1,qkn _ (W.S k).a2,qkn _ (W.S k).a3]
theorem q49 (h:¬(W.at_ j=k/\(W.ses j).opn=true)):dwV W k (j+1)=dwV W k j:=by
 have e:swV W k (j+1)=swV W k j:=if_neg h;unfold dwV;rw[e]
noncomputable def q9m:Code:=((Tryz.f40.body.bind (qa0 1)).getD .skip)
theorem qv4 {b:Nat} {M:RoM} {Gs:Nat->Nat->Prop} {i:Nat} {s t y5 u v x y z B C D E y15 y16 y17 y18 y19 y20 y21 y22 y23 y24 y25 y26 F G H I J K L N O P Q X Y Z aa ab ac ad ae af ag ah ai aj ak al am an ao ap aq ar au av aw ax ay:Value} (w:World) (h:RWo w b M W Gs) (hi:i<W.n) (R:Act->World->Prop)
 (hR:∀(u15 u16 u17 u18 u19 u20 u21 u22 u23 u24 u25 u26:Value) (c:Nat) (d:World),qd d c (v4C (dwV W i 0))->Bw w d->w.heap.size<=c->R ⟨List.toArray ((PP b)::(U i)::s::t::(PP (M.bp i))::(PP c)::u::v::x::y::z::B::C::D::E::u15::u16::u17::u18::u19::u20::u21::u22::u23::u24::u25::u26::F::G::H::I::J::K::L::N::O::P::Q::X::Y::Z::aa::ab::ac::ad::ae::af::ag::ah::ai::aj::ak::al::am::an::ao::ap::aq::ar::au::av::aw::ax::ay::[]),[]⟩ d):
 Code.wp Tryz.prog q9m (Exit.then R (λ_ _ _=>False)) ⟨List.toArray ((PP b)::(U i)::s::t::(PP (M.bp i))::y5::u::v::x::y::z::B::C::D::E::y15::y16::y17::y18::y19::y20::y21::y22::y23::y24::y25::y26::F::G::H::I::J::K::L::N::O::P::Q::X::Y::Z::aa::ab::ac::ad::ae::af::ag::ah::ai::aj::ak::al::am::an::ao::ap::aq::ar::au::av::aw::ax::ay::[]),[]⟩ w:=by
 have HR:Hid _:=hR;obtain⟨g,cap,c0,hcap,hg,hc⟩:=h.sitesAt hi;obtain⟨V,hV⟩:∃V,qj (W.S i) (jw W.n)=V:=⟨_,rfl⟩
 have ST:=hd1 (λw' p=>by
  have:=qug (W.n:Int) w' ((h.later p).site hi);rw[hV]at this
  exact this)
 have HV:Hid (∀d c,qd d c (v4C ⟨qm V.v0 (W.S i).a0,qm V.v1 (W.S i).a1,qm V.v2 (W.S i).a2,qm V.v3 (W.S i).a3⟩)->qd d c (v4C (dwV W i 0))):=λd c hr=>by
  have:dwV W i 0=⟨qm V.v0 (W.S i).a0,qm V.v1 (W.S i).a1,qm V.v2 (W.S i).a2,qm V.v3 (W.S i).a3⟩:=by
   show (⟨qm (qj (W.S i) (jw W.n)).v0 _,_,_,_⟩:V4)=_;rw[<-hV];rfl
  rw[this];exact hr
 have HA:Hid (∀w',Bw w w'->w'.cell? (AD (M.bp i) 1)=some (U (W.S i).a0)/\w'.cell? (AD (M.bp i) 2)=some (U (W.S i).a1)/\w'.cell? (AD (M.bp i) 3)=some (U (W.S i).a2)/\w'.cell? (AD (M.bp i) 4)=some (U (W.S i).a3)/\M.bp i<w'.heap.size):=λw' p=>((h.later p).site hi).applied;obtain⟨a0,a1,a2,a3,hbl⟩:=(h.site hi).applied;have hlt:=h.box.lt
 conv=>arg 2;whnf
 go_region_law (first
  |(refine qah rfl 87 rfl #[PP (M.bp i),U W.n] (by go_simp) (ST.out w.drew (jcc _ w).drew) ?_
    rintro e w2 ⟨rfl,o⟩;refine⟨_,rfl,?_⟩;have f:=qa (jcc _ w).drew o
    obtain⟨d0,d1,d2,d3,dl⟩:=HA.out w2 f)
  |(refine qah rfl 87 rfl #[PP (M.bp i),U W.n] (by go_simp) (ST.out (w.drew.alloc (.cells #[U 0,U 0,U 0,U 0] 77)) (boxed (jcc _ w).drew (.cells #[U 0,U 0,U 0,U 0] 77))) ?_
    rintro e w2 ⟨rfl,o⟩;refine⟨_,rfl,?_⟩;have f:=qa (boxed (jcc _ w).drew (.cells #[U 0,U 0,U 0,U 0] 77)) o;have RX:=(qd.new (w:=w.drew) (T:=77) (n:=w.heap.size) [U 0,U 0,U 0,U 0] rfl).later o
    obtain⟨d0,d1,d2,d3,dl⟩:=HA.out w2 f)
  |(refine qah rfl 86 rfl #[.agg #[U V.v0,U V.v1,U V.v2,U V.v3],.agg #[U ((W.S i).a0),U ((W.S i).a1),U ((W.S i).a2),U ((W.S i).a3)]] (by go_simp) (qgh _ _ _ _ _ _ _ _ w2) ?_
    rintro e q ⟨rfl,l⟩;refine⟨_,rfl,?_⟩;have a:=RX.later l;have m:=qa f l;have r:w.heap.size<=w.heap.size:=jcd _;obtain⟨f0,f1,f2,f3⟩:=a.f4;have y_0:=a.cell 0 _ rfl;have y_1:=a.cell 1 _ rfl;have y_2:=a.cell 2 _ rfl
    have y_3:=a.cell 3 _ rfl)
  |(refine qah rfl 86 rfl #[.agg #[U V.v0,U V.v1,U V.v2,U V.v3],.agg #[U ((W.S i).a0),U ((W.S i).a1),U ((W.S i).a2),U ((W.S i).a3)]] (by go_simp) (qgh _ _ _ _ _ _ _ _ w2) ?_
    rintro e q ⟨rfl,l⟩;refine⟨_,rfl,?_⟩
    have m:=qa f l)
  |(refine qah rfl 86 rfl #[.agg #[U V.v0,U V.v1,U V.v2,U V.v3],.agg #[U ((W.S i).a0),U ((W.S i).a1),U ((W.S i).a2),U ((W.S i).a3)]] (by go_simp) (qgh _ _ _ _ _ _ _ _ (w2.alloc (.cells #[U 0,U 0,U 0,U 0] 77))) ?_
    rintro e q ⟨rfl,l⟩;refine⟨_,rfl,?_⟩;have a:=(qd.new (w:=w2) (T:=77) (n:=w2.heap.size) [U 0,U 0,U 0,U 0] rfl).later l;have m:=qa (boxed f (.cells #[U 0,U 0,U 0,U 0] 77)) l;have r:=f.size;obtain⟨f0,f1,f2,f3⟩:=a.f4;have y_0:=a.cell 0 _ rfl;have y_1:=a.cell 1 _ rfl;have y_2:=a.cell 2 _ rfl
    have y_3:=a.cell 3 _ rfl))
 all_goals
  first
   |(go_simp
     refine HR.out _ _ _ _ _ _ _ _ _ _ _ _ _ _ (HV.out _ _ (qmu a _ _ _ _)) (qe8 m r _ _ _ _) r)
   |(go_simp
     exact HR.out _ _ _ _ _ _ _ _ _ _ _ _ _ _ (HV.out _ _ (qd.new (w:=q) (T:=77) (v4C ⟨qm V.v0 (W.S i).a0,qm V.v1 (W.S i).a1,qm V.v2 (W.S i).a2,qm V.v3 (W.S i).a3⟩) rfl)) (boxed m _) m.size)
end
section
open Go.RowKit
variable {G:Nat->Prop}
section
variable {w:World} {b:Nat} {M:RoM} {W:WoS} {Gs:Nat->Nat->Prop}
theorem RWo.clientsAt (h:RWo w b M W Gs):∃a e d f,w.cell? (AD b 2)=some (.slice a W.c e)/\W.c<=e/\w.cell? (AD b 3)=some (.slice d W.c f)/\W.c<=f/\(0<W.c->∃g g',a=some (AD g 0)/\d=some (AD g' 0)/\g<w.heap.size/\g'<w.heap.size/\∀j,j<W.c->w.cell? (AD g j)=some (PP (M.bs j))/\w.cell? (AD g' j)=some (U (W.at_ j))):=by
 obtain⟨a,e,n,r⟩:=qq h.cr;obtain⟨d,f,o,i⟩:=qq h.ar;have k:=h.box.cell 2 _ rfl;have l:=h.box.cell 3 _ rfl;rw[n]at k;rw[o]at l;refine⟨a,e,d,f,k,r.len,l,i.len,λv=>?_⟩;rcases r.held with q|⟨g,rfl,p,s⟩
 ·omega
 rcases i.held with q|⟨g',rfl,t,u⟩
 ·omega
 exact⟨g,g',rfl,rfl,p,t,λj m=>⟨s j _ (qn4 m),u j _ (qie m)⟩⟩
theorem RSe.snap {s:qy} (h:RSe w b G s):w.cell? (AD b 4)=some (U s.s0)/\w.cell? (AD b 5)=some (U s.s1)/\w.cell? (AD b 6)=some (U s.s2)/\w.cell? (AD b 7)=some (U s.s3)/\w.cell? (AD b 8)=some (.bool s.opn)/\b<w.heap.size:=by
 obtain⟨wv,h,_⟩:=h;exact⟨h.box.cell 4 _ rfl,h.box.cell 5 _ rfl,h.box.cell 6 _ rfl,h.box.cell 7 _ rfl,h.box.cell 8 _ rfl,h.box.lt⟩
end
theorem q57 {b:Nat} {W:WoS} (w:World) (h:RW w b G W) (E:WfW W) {i:Nat} (hi:i<W.n):
 Ca 40 #[PP b,U i] w λe w'=>e=.returned (.tuple #[])/\qae w b G (qo2 W i) w':=by
 obtain⟨M,Gs,h,O⟩:=h;have d:=hd4 h O E hi;obtain⟨g,cap,c0,hcap,hg,P⟩:=h.sitesAt hi;have c1:=P i hi;have H:=h.box.lt
 have q1:(i:Int)<(W.n:Int):=by omega
 have Q:=hd1 E.c6;obtain⟨ca,cca,da,dda,R,hcl,I,hdl,s⟩:=h.clientsAt;have u:=hd3 R I s;go_enter Tryz.func40,Tryz.ntmps40
 go_wp2_with fail
 refine qma (qv4 w d.out.1 d.out.2.2.2 _ ?_);rintro u15 u16 u17 u18 u19 u20 u21 u22 u23 u24 u25 u26 x w4 T y V;have B:=hd3 T y V;have c2:=cell_later y u.out.1;have hlt4:=jci H y.size
 go_wp2_with fail
 go_loopw [32] (λiv wr=>∃(j:Nat) (z:Int),j<=W.c/\z=j/\iv=U z/\Hid (qd wr x (v4C (dwV W i j))/\Bw w wr)) (λiv _=>W.c-(intOf iv).toNat)
 case atStart=>exact⟨0,0,by omega,rfl,rfl,B.out.1,B.out.2.1⟩
 obtain⟨j,z,hj,X,rfl,a⟩:=hrel;have f:=hd1 X;by_cases C:j<W.c
 ·have Y:z<(W.c:Int):=by omega
  have g2:z.toNat=j:=by omega
  have g3:0<=z:=by omega
  have g4:z<6:=by have:=Q.out;omega
  obtain⟨cg,Z,aa,ab,hcg,hcg',s⟩:=u.out.2.2 (by omega);subst aa;subst ab;have x0:=cell_later a.out.2 (s j C).1;have ac:=cell_later a.out.2 (s j C).2;obtain⟨o,J⟩:∃o:Int,(W.at_ j:Int)=o:=⟨_,rfl⟩
  have x1:wr.cell? (AD Z j)=some (U o):=by rw[<-J];exact ac
  have K:=hd1 J;have I:=cell_later a.out.2 u.out.2.1;have ltr:=jci H a.out.2.size;obtain⟨s0,s1,s2,s3,L,sl⟩:=((d.out.1.later a.out.2).sess C).snap;cases ho:(W.ses j).opn
  ·have k:Hid (dwV W i (j+1)=dwV W i j):=q49 (λq=>by rw[ho]at q;cases q.2);rw[ho]at L
   go_wp2_with fail
   go_roundw
   case rel=>exact⟨j+1,z+1,by omega,by have:=f.out;omega,by go_num,by rw[k.out];exact a.out.1,a.out.2⟩
   simp[intOf];have:=f.out;omega
  rw[ho]at L;by_cases t:o=(i:Int)
  ·subst t;have k:Hid (dwV W i (j+1)=⟨qm (dwV W i j).v0 (W.ses j).s0,qm (dwV W i j).v1 (W.ses j).s1,qm (dwV W i j).v2 (W.ses j).s2,qm (dwV W i j).v3 (W.ses j).s3⟩):=q9r ⟨by have:=K.out;omega,ho⟩;obtain⟨v,p⟩:∃v,dwV W i j=v:=⟨_,rfl⟩;rw[p]at k
   have r:qd wr x [U v.v0,U v.v1,U v.v2,U v.v3]:=by have:=a.out.1;rw[p]at this;exact this
   have HF:=hd1 r;obtain⟨a0,a1,a2,a3⟩:=r.c4;have lv:=r.lt;have MI:Hid (∀w',Ca 86 #[.agg #[U v.v0,U v.v1,U v.v2,U v.v3],.agg #[U (W.ses j).s0,U (W.ses j).s1,U (W.ses j).s2,U (W.ses j).s3]] w' λe w''=>e=.returned (.agg #[U (qm v.v0 (W.ses j).s0),U (qm v.v1 (W.ses j).s1),U (qm v.v2 (W.ses j).s2),U (qm v.v3 (W.ses j).s3)])/\Bw w' w''):=λw'=>qgh _ _ _ _ _ _ _ _ w'
   go_wp2_with fail
   go_region_law (refine qah rfl 86 rfl #[.agg #[U v.v0,U v.v1,U v.v2,U v.v3],.agg #[U (W.ses j).s0,U (W.ses j).s1,U (W.ses j).s2,U (W.ses j).s3]] (by go_simp) (MI.out wr.drew) ?_
                  rintro e w7 ⟨rfl,hb7⟩;refine⟨_,rfl,?_⟩;have N:=qa (jcc _ wr).drew hb7;have m:=HF.out.later N;obtain⟨d0,d1,d2,d3⟩:=m.c4;have f0:=m.free 0 (by simp);have f1:=m.free 1 (by simp);have f2:=m.free 2 (by simp)
                  have f3:=m.free 3 (by simp))
   all_goals
        go_wp2_with fail
        go_roundw
        case rel=>exact⟨j+1,z+1,by omega,by have:=f.out;omega,by go_num,by rw[k.out];exact qmu m _ _ _ _,qe8 (qa a.out.2 N) B.out.2.2 _ _ _ _⟩
        simp[intOf];have:=f.out;omega
  have k:Hid (dwV W i (j+1)=dwV W i j):=q49 (λq=>t (by have:=K.out;have:=q.1;omega))
  have hq1:(o==(i:Int))=false:=by simp[t]
  have hq2:=decide_eq_false t
  go_wp2_with fail
  go_roundw
  case rel=>exact⟨j+1,z+1,by omega,by have:=f.out;omega,by go_num,by rw[k.out];exact a.out.1,a.out.2⟩
  simp[intOf];have:=f.out;omega
 have Y:¬z<(W.c:Int):=by omega
 have e:j=W.c:=by omega
 subst e;have R9:=a.out.1;have D:=hd2 (d.out.1.later a.out.2.drew) a.out.2.drew;obtain⟨v,p⟩:∃v,dwV W i W.c=v:=⟨_,rfl⟩
 have r:qd wr x [U v.v0,U v.v1,U v.v2,U v.v3]:=by have:=a.out.1;rw[p]at this;exact this
 have SW:Hid (Ca 88 #[.pointer (some (AD (M.bp i) 9)),.agg #[U v.v0,U v.v1,U v.v2,U v.v3]] wr.drew λe w'=>e=.returned (.tuple #[])/\RPo wr.drew (M.bp i) (Gs i) (M.F i) {W.S i with l:=qcr v.v0 v.v1 v.v2 v.v3 (W.S i).l} w'):=qy5 v.v0 v.v1 v.v2 v.v3 wr.drew (D.out.1.site d.out.2.2.2) (d.out.2.2.1.inv i d.out.2.2.2)
 have HW:Hid (qo2 W i=setSite W i {W.S i with l:=qcr v.v0 v.v1 v.v2 v.v3 (W.S i).l}):=by show _=_;rw[<-p];rfl
 obtain⟨z0,z1,z2,z3⟩:=r.c4
 go_wp2_with fail
 go_region_law (refine qah rfl 88 rfl #[.pointer (some (AD (M.bp i) 9)),.agg #[U v.v0,U v.v1,U v.v2,U v.v3]] (by go_simp) SW.out ?_
                rintro e w8 ⟨rfl,hp⟩
                refine⟨_,rfl,?_⟩)
 all_goals
  go_wp2_with fail
  go_end0;refine⟨rfl,?_⟩;rw[HW.out];exact qae.from D.out.2 (D.out.1.stepS d.out.2.1 d.out.2.2.2 hp)
end
section
open Go.RowKit
section
variable {w w' wA wB:World} {b i:Nat} {M:RoM} {W:WoS} {Gs:Nat->Nat->Prop}
theorem RWo.kept (h:RWo w b M W Gs) (f:∀k,qg6 b M (W.n+W.c) Gs k->w'.heap[k]?=w.heap[k]?) (g:w.heap.size<=w'.heap.size):RWo w' b M W Gs:=by
 have l:=λk q=>f k (.inl q)
 have a:∀{x:Option Nat},x∈vx b M->∀k,x=some k->w'.heap[k]?=w.heap[k]?:=λd k e=>by rw[e]at d;exact l k d
 refine⟨h.box.kept (l b (by simp[ql,vx])) g,qf h.sr (a (by simp[vx])),qf h.wr (a (by simp[vx])),qf h.cr (a (by simp[vx])),qf h.ar (a (by simp[vx])),qf h.yr (a (by simp[vx])),h.nl,λx d=>(h.gr x d).to (λi k o hi e=>?_),h.fam.to (λj k p e=>f k (.inr ⟨j,p,e⟩)) g (λk e=>⟨.inl e,jci (h.ltF k e) g⟩),h.ap⟩;have:=(h.site hi).frozen e;exact⟨e,this,(f k (.inr ⟨i,by omega,(h.site hi).frozenG e⟩)).trans this⟩
theorem RWo.com (h:RWo w b M W Gs) (hi:i<W.c) (r:W.at_ i<W.n) {S':qe} {a:qy} {F':Nat->Option Obj} {Y:Nat->Prop} (s:∀k o,M.F (W.at_ i) k=some o->F' k=some o) (t:qfx (qjd (M.bs i) a) (qek (M.bp (W.at_ i)) F' S') w (Gs (W.n+i)) (Gs (W.at_ i)) Y w'):
 ∃d,RWo w' b {M with F:=jj M.F (W.at_ i) F'} (vf (setSite W (W.at_ i) S') i a) d/\(∀m k,d m k->Gs m k\/w.heap.size<=k)/\qc (λk=>Gs (W.n+i) k\/Gs (W.at_ i) k) w w':=by
 obtain⟨u,v,p1,x,p2,y,z,_,l⟩:=t
 obtain⟨d,f,g,A,l⟩:=h.fam.step2G (ps':=qdm {M with F:=jj M.F (W.at_ i) F'} (vf (setSite W (W.at_ i) S') i a)) (i:=W.n+i) (j:=W.at_ i) (by omega) (by omega) ⟨u,v,p1,x,p2,y,z,λ_ e=>e.elim,l⟩ (by
  show (if W.n+i<W.n then _ else _)=_;rw[if_neg (by omega)];show qjd (M.bs (W.n+i-W.n)) (jj W.ses i a (W.n+i-W.n))=_
  rw[show W.n+i-W.n=i by omega,qt]) (by
  show (if W.at_ i<W.n then qek (M.bp (W.at_ i)) (jj M.F (W.at_ i) F' (W.at_ i)) (jj W.S (W.at_ i) S' (W.at_ i))else _)=_
  rw[if_pos r,qt,qt]) (λm B C p=>by
  show (if m<W.n then qek (M.bp m) (jj M.F (W.at_ i) F' m) (jj W.S (W.at_ i) S' m)else qjd (M.bs (m-W.n)) (jj W.ses i a (m-W.n)))=(if m<W.n then _ else _);by_cases q:m<W.n
  ·rw[if_pos q,if_pos q,yq _ _ p,yq _ _ p]
  rw[if_neg q,if_neg q,yq _ _ (by omega)])
 refine⟨d,h.keep A f (λj k o D e=>?_) rfl rfl rfl rfl rfl rfl,g,l⟩;by_cases q:j=W.at_ i
 ·subst q;rw[qt];exact s k o e
 rw[yq _ _ q];exact e
end
def qi9 (wA:World) (b:Nat) (M:RoM) (W:WoS) (Gs:Nat->Nat->Prop) (i:Nat) (m:TxM) (ce:Int) (wB:World):Prop:=
 ce=wcE W i/\m.t=wcT W i/\qr wB m.wa m.wc m.t.ws/\∃F' Gs',RWo wB b {M with F:=jj M.F (W.at_ i) F'} (qd4 W i) Gs'/\(∀j k,Gs' j k->Gs j k\/wA.heap.size<=k)/\qc (λk=>Gs (W.n+i) k\/Gs (W.at_ i) k) wA wB/\∀k,m.blk k->∃o,F' k=some o
def jb5 (w:World) (b:Nat) (M:RoM) (W:WoS) (Gs:Nat->Nat->Prop) (i:Nat) (m:TxM) (ce:Int) (mb:Nat) (wC:World):Prop:=qd wC mb (txC m)/\w.heap.size<=mb/\qi9 w b M W Gs i m ce wC
section
variable {w wA wB wC:World} {b i:Nat} {M:RoM} {W:WoS} {Gs:Nat->Nat->Prop} {m:TxM} {ce:Int}
theorem qi9.lie (a:RWo w b M W Gs) (hi:i<W.c) (d:W.at_ i<W.n) {k:Nat} (f:w.heap.size<=k):¬(Gs (W.n+i) k\/Gs (W.at_ i) k):=λe=>by
 have:k<w.heap.size:=e.elim (λq=>a.ltG (by omega) q) (λq=>a.ltG (by omega) q);omega
theorem qi9.box (h:qi9 wA b M W Gs i m ce wB) (e:RWo w b M W Gs) (hi:i<W.c) (f:W.at_ i<W.n) {l:List Value} (a:qd wA w.heap.size l):qd wB w.heap.size l:=by
 obtain⟨_,_,_,_,_,_,_,d,_⟩:=h;exact a.kept (d.block _ a.lt (qi9.lie e hi f (jcd _))) d.size
theorem qi9.to (h:qi9 wA b M W Gs i m ce wB) (d:RWo w b M W Gs) (f:W.at_ i<W.n) (g:Bw w wA) (l:∀k,(k<w.heap.size\/wA.heap.size<=k)->k<wB.heap.size->wC.heap[k]?=wB.heap[k]?) (p:qc (λk=>w.heap.size<=k) wB wC):qi9 w b M W Gs i m ce wC:=by
 obtain⟨y,z,A,F',r,a,t,B,u⟩:=h
 have C:∀k,qg6 b {M with F:=jj M.F (W.at_ i) F'} ((qd4 W i).n+(qd4 W i).c) r k->wC.heap[k]?=wB.heap[k]?:=λk e=>by
  rcases e with e|⟨j,v,e⟩
  ·exact l k (.inl (d.ltF k e)) (a.ltF k e)
  exact l k ((t j k e).imp (λq=>d.ltG v q) id) (a.ltG v e)
 have R:=a.kept C p.size;have s:=g.size;refine⟨y,z,?_,F',r,R,λj k e=>(t j k e).imp id (λq=>by omega),((qc.ofBelow g).trans B).more p (λk q=>.inr q),u⟩;refine A.kept (m:=m) (λk e=>?_);obtain⟨o,x⟩:=u k e;have D:=(R.site (i:=W.at_ i) f).frozen (o:=o) (k:=k) (by show jj M.F (W.at_ i) F' (W.at_ i) k=_;rw[qt];exact x);have E:=(a.site (i:=W.at_ i) f).frozen (o:=o) (k:=k) (by show jj M.F (W.at_ i) F' (W.at_ i) k=_;rw[qt];exact x);exact D.trans E.symm
end
variable {X:Nat->Prop} {w w':World}
theorem qwr (c:∀k,X k->k<w.heap.size) (h:jg X w w') (o:Obj):jg X w (w'.alloc o):=
 have b:=boxed (jcc w'.heap.size w') o
 ⟨b.os.trans h.os,b.tape.trans h.tape,b.output.trans h.output,jcn h.size b.size,λk a=>(b.block k (jci (c k a) h.size)).trans (h.block k a)⟩
theorem vy (h:jg X w w'):jg X w w'.drew:=
 have b:=(jcc w'.heap.size w').drew
 ⟨b.os.trans h.os,b.tape.trans h.tape,b.output.trans h.output,jcn h.size b.size,h.block⟩
theorem qzv (c:∀k,X k->k<w.heap.size) (h:jg X w w') {g j:Nat} (d:w.heap.size<=g) (u:Value):jg X w (w'.setCell (AD g j) u):=
 ⟨h.os,h.tape,h.output,by simpa[World.setCell]using h.size,λk a=>(jce _ _ _ _ (λe=>by have:=c k a;simp only at e;omega)).trans (h.block k a)⟩
variable {b i:Nat} {M:RoM} {W:WoS} {Gs:Nat->Nat->Prop}
theorem qi9.keeps {wA wB:World} {m:TxM} {ce:Int} (h:qi9 wA b M W Gs i m ce wB) (g:RWo w b M W Gs) (hi:i<W.c) (l:W.at_ i<W.n) (a:Bw w wA):jg (ql b M) w wB:=by
 obtain⟨_,_,_,_,_,_,_,d,_⟩:=h;have s:=a.size;refine⟨d.os.trans a.os,d.tape.trans a.tape,d.output.trans a.output,jcn s d.size,λk j=>?_⟩;have f:=g.fam.free k j;exact(d.block k (by omega) (λe=>e.elim (f.2 _ (by omega)) (f.2 _ (by omega)))).trans (a.block k f.1)
noncomputable def jbg:Code:=((Tryz.f34.body.bind (qa0 2)).getD .skip)
theorem q1p {K L N O y7 y8 P Q S V Y Z aa ab y17 y18 y19 y20 y21 y22 y23 y24 y25 y26 y27 y28 y29 y30 y31 y32 y33 y34 y35 y36 y37 y38 y39 y40 y41 ac ad ae af ag ah ai aj ak al am an ao ap aq ar au av aw ax ay az aA aB aC aD:Value} (w:World) (h:RWo w b M W Gs) (hw:WfW W) (hi:i<W.c) (hp:0<=(W.ses i).p0) (R:Act->World->Prop)
 (hR:∀(u17 u18 u19 u20 u21 u22 u23 u24 u25 u26 u27 u28 u29 u30 u31 u32 u33 u34 u35 u36 u37 u38 u39 u40 u41:Value) (l o p q r s t v:Int) (x:List Wr) (y:Option Addr) (z:Nat) (ce:Int) (mb:Nat) (wc:World),jb5 w b M W Gs i (⟨⟨l,o,p,q,r,s,t,v,x⟩,y,z⟩:TxM) ce mb wc->R ⟨List.toArray ((PP b)::(U i)::K::L::N::O::(U (W.at_ i))::(PP mb)::(U ce)::P::Q::S::V::Y::Z::aa::ab::u17::u18::u19::u20::u21::u22::u23::u24::u25::u26::u27::u28::u29::u30::u31::u32::u33::u34::u35::u36::u37::u38::u39::u40::u41::ac::ad::ae::af::ag::ah::ai::aj::ak::al::am::an::ao::ap::aq::ar::au::av::aw::ax::ay::az::aA::aB::aC::aD::[]),[]⟩ wc):
 Code.wp Tryz.prog jbg (Exit.then R (λ_ _ _=>False)) ⟨List.toArray ((PP b)::(U i)::K::L::N::O::(U (W.at_ i))::y7::y8::P::Q::S::V::Y::Z::aa::ab::y17::y18::y19::y20::y21::y22::y23::y24::y25::y26::y27::y28::y29::y30::y31::y32::y33::y34::y35::y36::y37::y38::y39::y40::y41::ac::ad::ae::af::ag::ah::ai::aj::ak::al::am::an::ao::ap::aq::ar::au::av::aw::ax::ay::az::aA::aB::aC::aD::[]),[]⟩ w:=by
 have HR:Hid _:=hR;have B:=hw.at_ i hi
 have CM:Hid (∀wA,Bw w wA->Ca 81 #[PP (M.bs i),.pointer (some (AD (M.bp (W.at_ i)) 0)),U (W.wall (W.at_ i))] wA λe wB=>∃(l o p q r s t v:Int) (x:List Wr) (y:Option Addr) (z:Nat) (ce:Int),e=.returned (.tuple #[.agg (List.toArray (T9 l o p q r s t v y x.length z)),U ce])/\Hid (qi9 wA b M W Gs i (⟨⟨l,o,p,q,r,s,t,v,x⟩,y,z⟩:TxM) ce wB)):=λwA hA=>by
  have E:=h.later hA;refine(qmi (W.wall (W.at_ i)) wA (E.sess hi) (E.site B) (hw.inv _ B) (λk e1 e2=>E.fam.apart _ _ k (by omega) (by omega) (by omega) e1 e2) hp).mono λe wB ⟨⟨⟨l,o,p,q,r,s,t,v,x⟩,y,z⟩,he,hm,hh⟩=>⟨l,o,p,q,r,s,t,v,x,y,z,_,he,rfl,hm,hh.out.1,?_⟩;obtain⟨F',hFE,hl⟩:=hh.out.2;obtain⟨Gs',r1,r2,r3⟩:=E.com hi B hFE.1 hl;exact⟨F',Gs',r1,r2,r3,hFE.2⟩
 have d:=hd3 h hi B;obtain⟨g,cap,c0,hcap,hg,hc⟩:=h.sitesAt B;have c0':=hc _ B;obtain⟨ca,cca,da,dda,c2,hcl,c3,hdl,G⟩:=h.clientsAt;obtain⟨H,cg',rfl,rfl,hcg,hcg',G⟩:=G (by omega);have c2':=(G i hi).1;obtain⟨wv,wcp,hwv,wr⟩:=qq h.wr
 obtain⟨I,rfl,hwg,hwc⟩:∃g,wv=some (AD g 0)/\g<w.heap.size/\∀j u,(qdw W.wall W.n)[j]?=some u->w.cell? (AD g j)=some u:=by
  rcases wr.held with h0|h0
  ·omega
  exact h0
 have c1:=h.box.cell 1 _ rfl;rw[hwv]at c1;have c1':=hwc _ _ (qie B);have hwl:=wr.len;have hlt:=h.box.lt
 have q1:(i:Int)<(W.c:Int):=by omega
 have q2:(W.at_ i:Int)<(W.n:Int):=by omega
 have FL:=h.ltF
 have J:ql b M b:=by simp[ql,vx]
 have fs:ql b M g:=by have:=h.box.cell 0 _ rfl;rw[c0]at this;unfold ql vx;rw[<-jcu this];simp[Value.ownBlock]
 have fw:ql b M I:=by unfold ql vx;rw[hwv];simp[Value.ownBlock]
 have fc:ql b M H:=by have:=h.box.cell 2 _ rfl;rw[c2]at this;unfold ql vx;rw[<-jcu this];simp[Value.ownBlock]
 have K0:=λ(w':World) (k:jg (ql b M) w w')=>(jch (w:=w) (a:=AD b 0) (k.block b J)).trans c0;have K1:=λ(w':World) (k:jg (ql b M) w w')=>(jch (w:=w) (a:=AD b 1) (k.block b J)).trans c1;have K2:=λ(w':World) (k:jg (ql b M) w w')=>(jch (w:=w) (a:=AD b 2) (k.block b J)).trans c2;have K3:=λ(w':World) (k:jg (ql b M) w w')=>(jch (w:=w) (a:=AD g (W.at_ i)) (k.block g fs)).trans c0';have K4:=λ(w':World) (k:jg (ql b M) w w')=>(jch (w:=w) (a:=AD I (W.at_ i)) (k.block I fw)).trans c1';have K5:=λ(w':World) (k:jg (ql b M) w w')=>(jch (w:=w) (a:=AD H i) (k.block H fc)).trans c2';have K00:jg (ql b M) w w:=⟨rfl,rfl,rfl,jcd _,λ_ _=>rfl⟩;have KD:=vy K00
 conv=>arg 2;whnf
 go_region_held3 (λw'=>jg (ql b M) w w') (repeat (first|(with_reducible assumption)|(with_reducible refine qwr FL ?_ _)|(with_reducible refine vy ?_)|(refine qzv FL ?_ (by first|exact jcd _|assumption|(simp;omega)) _))) (first
  |(go_at_call 81
    with_reducible refine(CM.out w.drew (jcc _ w).drew).mono ?_
    rintro e wB ⟨l,o,p,q,r,s,t,v,x,y,z,ce,rfl,C⟩;have D:Bw w _:=(jcc _ w).drew;have F:=C.out.keeps d.out.1 d.out.2.1 d.out.2.2 D;have hbs:=F.size
    have hs0:=hlt)
  |(go_at_call 81
    with_reducible refine(CM.out (w.alloc (.cells ZA 102)).drew (boxed (jcc _ w) (.cells ZA 102)).drew).mono ?_
    rintro e wB ⟨l,o,p,q,r,s,t,v,x,y,z,ce,rfl,C⟩;have D:Bw w _:=(boxed (jcc _ w) (.cells ZA 102)).drew;have F:=C.out.keeps d.out.1 d.out.2.1 d.out.2.2 D;have hbs:=F.size;have RW0:=(qd.new (w:=w) (T:=102) (n:=w.heap.size) ZL rfl).drew;have f:=C.out.box d.out.1 d.out.2.1 d.out.2.2 RW0;obtain⟨v0,v1,v2,v3,v4,v5,v6,v7,v8⟩:=f.c9;have f0:=f.free 0 (by simp);have f1:=f.free 1 (by simp);have f2:=f.free 2 (by simp);have f3:=f.free 3 (by simp);have f4:=f.free 4 (by simp);have f5:=f.free 5 (by simp);have f6:=f.free 6 (by simp);have f7:=f.free 7 (by simp)
    have f8:=f.free 8 (by simp)))
 all_goals
  first
   |(have hck:=f.lt
     go_simp
     refine HR.out _ _ _ _ _ _ _ _ _ _ _ _ _ _ _ _ _ _ _ _ _ _ _ _ _ l o p q r s t v x y z ce _ _ ⟨yz f rfl _ _ _ _ _ _ _ _ _,jcd _,C.out.to d.out.1 d.out.2.2 D (λk hk1 hk2=>qco (λe=>by simp at hk1;omega) _ _ _ _ _ _ _ _ _) (qaz (qc.ofBelow (jcc _ _)) (jcd _) _ _ _ _ _ _ _ _ _)⟩)
   |(go_simp
     refine HR.out _ _ _ _ _ _ _ _ _ _ _ _ _ _ _ _ _ _ _ _ _ _ _ _ _ l o p q r s t v x y z ce _ _ ⟨qd.new (w:=wB) (T:=102) (T9 l o p q r s t v y x.length z) rfl,F.size,C.out.to d.out.1 d.out.2.2 D (λk hk1 hk2=>(boxed (jcc _ wB) _).block k hk2) (qc.ofBelow (boxed (jcc _ wB) _))⟩)
end
section
open Go.RowKit
def q6p (w:World) (b:Nat) (G:Nat->Prop) (W:WoS) (i:Nat) (e:Ending) (w':World):Prop:=
 ∃m:TxM,e=.returned (.tuple #[txV m,U (wcE W i)])/\m.t=wcT W i/\Hid (qr w' m.wa m.wc m.t.ws/\∃G',RW w' b G' (wcW W i)/\(∀k,G' k->G k\/w.heap.size<=k)/\qc G w w'/\∀k,m.blk k->G' k)
variable {w:World} {b:Nat}
theorem qh6 {tmps:Array Value} {x0 x1 x2 x3 d e f g:Int} {ev:Value} {a:Option Addr} {n c:Nat} (h:qd w b (T9 x0 x1 x2 x3 d e f g a n c)) (j:tmps[4]?=some (PP b)) (k:tmps[5]?=some ev):
 (results Tryz.f34 tmps).run Tryz.prog w=.ok (.tuple #[.agg (List.toArray (T9 x0 x1 x2 x3 d e f g a n c)),ev]) w:=by
 obtain⟨l,o,p,q,r,s,t,u,v⟩:=h.c9;simp[results,Tryz.results34,go_sem,j,k,l,o,p,q,r,s,t,u,v]
structure quy (w wr:World) (b:Nat) (G:Nat->Prop) (W':WoS) (m:TxM) (mb:Nat):Prop where
 rt:qd wr w.heap.size ZL
 rm:qd wr mb (txC m)
 ne:w.heap.size<mb
 wi:qr wr m.wa m.wc m.t.ws
 all:∃G',RW wr b G' W'/\(∀k,G' k->G k\/w.heap.size<k)/\qc (λk=>G k\/k=w.heap.size) w wr/\(∀k,m.blk k->G' k)
def jat (w:World) (b:Nat) (M:RoM) (W:WoS) (Gs:Nat->Nat->Prop) (i:Nat) (m:TxM) (F':Nat->Option Obj) (Gs':Nat->Nat->Prop) (mb:Nat) (wC:World):Prop:=qd wC mb (txC m)/\w.heap.size<=mb/\qr wC m.wa m.wc m.t.ws/\RWo wC b {M with F:=jj M.F (W.at_ i) F'} (qd4 W i) Gs'/\(∀j k,Gs' j k->Gs j k\/w.heap.size<=k)/\qc (λk=>Gs (W.n+i) k\/Gs (W.at_ i) k) w wC/\∀k,m.blk k->∃o,F' k=some o
variable {i mb:Nat} {G:Nat->Prop} {W:WoS} {m:TxM} {wr:World}
theorem jat.told {M:RoM} {t:Nat->Nat->Prop} {g:World} {W':WoS} (h:RWo w b M W t) (a:∀k,G k↔qg6 b M (W.n+W.c) t k) (hi:i<W.c) (u:W.at_ i<W.n) {F':Nat->Option Obj} {d:Nat->Nat->Prop} (H:jat (w.nu ZA 102) b M W t i m F' d mb g) (y:qc5 g b {M with F:=jj M.F (W.at_ i) F'} d W' wr) (v:W'.n=W.n) (z:W'.c=W.c):quy w wr b G W' m mb:=by
 obtain⟨A,Z,N,O,Q,p,B⟩:=H
 have aa:(w.nu ZA 102).heap.size=w.heap.size+1:=by simp
 have P:=y.post (W:=qd4 W i) (G:=qg6 b M (W.n+W.c) d) (λ_=>jdl) v z;obtain⟨x,C,p1,p2,f⟩:=y;obtain⟨G2,q1,q2,q3⟩:=P;have s1:=p.size
 have R:∀k,k=b\/M.yv.ownBlock=some k->k<w.heap.size:=λk e=>h.ltF k (by
  rcases e with e|e
  ·rw[e];simp[ql,vx]
  unfold ql vx;rw[e];simp)
 have D:∀k,w.heap.size<=k->¬(k=b\/M.yv.ownBlock=some k):=λk E e=>by have:=R k e;omega
 have S:=λk (E:w.heap.size<=k)=>qi9.lie (i:=i) h hi u E;have I:=qd.new (w:=w) (T:=102) (n:=w.heap.size) ZL rfl;have J:qd g w.heap.size _:=I.kept (p.block _ I.lt (S _ (jcd _))) p.size
 have V:∀k,qg6 b M (W.n+W.c) d k->G k\/w.heap.size<k:=λk e=>by
  rcases e with e|⟨j,X,e⟩
  ·exact .inl ((a k).2 (.inl e))
  exact(Q j k e).imp (λq=>(a k).2 (.inr ⟨j,X,q⟩)) (λq=>by omega)
 have Y:qc (λk=>G k\/k=w.heap.size) w g:=(qc.ofBelow (boxed (jcc _ w) _)).more p (λk e=>.inl (.inl (e.elim (λq=>(a k).2 (.inr ⟨_,by omega,q⟩)) (λq=>(a k).2 (.inr ⟨_,by omega,q⟩)))))
 have K:W.at_ i<W'.n:=by rw[v];exact u
 have L:∀{k o},F' k=some o->({M with F:=jj M.F (W.at_ i) F',yv:=x,l:=C}:RoM).F (W.at_ i) k=some o:=λ{k o} e=>by show jj M.F (W.at_ i) F' (W.at_ i) k=_;rw[qt];exact e
 refine⟨J.kept (f.block _ J.lt (D _ (jcd _))) f.size,A.kept (f.block _ A.lt (D _ (by omega))) f.size,by omega,?_,?_⟩
 ·refine N.kept (m:=m) (λk e=>?_);obtain⟨o,s⟩:=B k e;exact((p1.site K).frozen (L s)).trans ((O.site (i:=W.at_ i) u).frozen (o:=o) (k:=k) (by show jj M.F (W.at_ i) F' (W.at_ i) k=_;rw[qt];exact s)).symm
 refine⟨qg6 b {M with F:=jj M.F (W.at_ i) F',yv:=x,l:=C} (W'.n+W'.c) d,⟨_,d,p1,λ_=>jdl⟩,λk e=>?_,Y.more f (λk e=>.inl (.inl ((a k).2 (.inl (by
  rcases e with e|e
  ·rw[e];simp[ql,vx]
  unfold ql vx;rw[e];simp))))),λk e=>?_⟩
 ·rw[v,z]at e;rcases e with e|e
  ·have e:some k∈[some b,M.sv.ownBlock,M.wv.ownBlock,M.cv.ownBlock,M.av.ownBlock]++[x.ownBlock]:=e;rcases jcf.1 e with q|q
   ·exact .inl ((a k).2 (.inl (List.mem_append_left [M.yv.ownBlock] q)))
   rcases p2 k (jcj.1 q).symm with r|r
   ·exact .inl ((a k).2 (.inl (by unfold ql vx;rw[r];simp)))
   exact .inr (by omega)
  exact V k (.inr e)
 obtain⟨o,s⟩:=B k e;exact .inr ⟨W.at_ i,by omega,(p1.site K).frozenG (L s)⟩
theorem quy.done (h:quy w wr b G (wcW W i) m mb) (j:∀k,G k->k<w.heap.size) {d:World} (a:qc (λk=>k=w.heap.size) wr d):Hid (qr d m.wa m.wc m.t.ws/\∃c,RW d b c (wcW W i)/\(∀k,c k->G k\/w.heap.size<=k)/\qc G w d/\∀k,m.blk k->c k):=by
 obtain⟨c,a1,a2,a3,f⟩:=h.all
 have g:∀k,c k->k≠w.heap.size:=λk e q=>by
  rcases a2 k e with r|r
  ·have:=j k r;omega
  omega
 refine⟨h.wi.kept (m:=m) (λk e=>a.block k (a1.lt k (f k e)) (g k (f k e))),c,a1.kept (λk e=>a.block k (a1.lt k e) (g k e)) a.size,λk e=>(a2 k e).imp id (λq=>by omega),?_,f⟩;have s:=a3.size;exact⟨a.os.trans a3.os,a.tape.trans a3.tape,a.output.trans a3.output,jcn s a.size,λk l n=>(a.block k (by omega) (by omega)).trans (a3.block k l (λe=>e.elim n (by omega)))⟩
theorem q5w (h:¬0<(wcT W i).seq):wcW W i=qd4 W i:=if_neg h
theorem q9e (h:0<(wcT W i).seq):wcW W i=qam (wcT W i) W.n (qd4 W i):=if_pos h
theorem q2t (w:World) (h:RW w b G W) (O:WfW W) (hi:i<W.c) (hp:0<=(W.ses i).p0) (hs:0<(wcT W i).seq->(wcT W i).site=(W.at_ i:Int)):
 Ca 34 #[PP b,U i] w (q6p w b G W i):=by
 obtain⟨M,Z,h,hG⟩:=h;have ha:=O.at_ i hi;have hb0:=boxed (jcc _ w) (.cells ZA 102);have H0:=h.later hb0;have HGL:=hd1 (RW.lt ⟨M,Z,h,hG⟩);have u:=hd6 h hG hi ha O.n4 hs;have P:=hd3 H0 O hp;obtain⟨ca,cca,da,dda,c2,hcl,c3,hdl,Q⟩:=H0.clientsAt;obtain⟨cg,cg',rfl,rfl,hcg,hcg',Q⟩:=Q (by omega);have c3':=(Q i hi).2;have hlt:=h.box.lt
 have q1:(i:Int)<(W.c:Int):=by omega
 go_enter Tryz.func34,Tryz.ntmps34
 go_wp2_with fail
 refine qma (q1p (i:=i) _ P.out.1 P.out.2.1 u.out.2.2.1 P.out.2.2 _ ?_);rintro u17 u18 u19 u20 u21 u22 u23 u24 u25 u26 u27 u28 u29 u30 u31 u32 u33 u34 u35 u36 u37 u38 u39 u40 u41 a d f g j l o p t v x ce mb H ⟨hr,hmb,h1,h2,h3,F',R,h4,h5,tt,h6⟩;have B:=hd2 h1 h2;have D:Hid (jat (w.nu ZA 102) b M W Z i (⟨⟨a,d,f,g,j,l,o,p,t⟩,v,x⟩:TxM) F' R mb H):=⟨hr,hmb,h3,h4,h5,tt,h6⟩;have RM:=hr;have lm:=RM.lt;obtain⟨x0,x1,x2,x3,x4,x5,x6,x7,x8⟩:=RM.c9;by_cases hE:ce=0;subst hE;by_cases hsq:0<d
 ·have S:Hid (wcW W i=qam ⟨a,d,f,g,j,l,o,p,t⟩ W.n (qd4 W i)/\a=(W.at_ i:Int)):=by
   have e:0<(wcT W i).seq:=by rw[<-B.out.2];exact hsq
   refine⟨?_,?_⟩
   ·rw[q9e e,<-B.out.2]
   have:=u.out.2.2.2.2.2 e;rw[<-B.out.2]at this;exact this
  obtain⟨sg,scap,s0o,hscap,hsg,hsc⟩:=D.out.2.2.2.1.sitesAt (i:=W.at_ i) u.out.2.2.2.1;have hlC:=D.out.2.2.2.1.box.lt;have s0:H.cell? (AD b 0)=some (.slice (PT sg) W.n scap):=s0o;have hscap:W.n<=scap:=hscap
  go_wp2_with fail
  go_loopw [54] (λiv wr=>∃(k:Nat) (z:Int),k<=W.n/\z=k/\iv=U z/\Hid (qc5 H b {M with F:=jj M.F (W.at_ i) F'} R (qam ⟨a,d,f,g,j,l,o,p,t⟩ k (qd4 W i)) wr)) (λiv _=>W.n-(intOf iv).toNat)
  case atStart=>exact⟨0,0,by omega,rfl,rfl,qc5.none D.out.2.2.2.1 (jcc _ _)⟩
  obtain⟨k,z,hk,hz,rfl,L⟩:=hrel;have E:=hd1 hz;by_cases hlt2:k<W.n
  ·have g1:z<(W.n:Int):=by omega
   have g2:z.toNat=k:=by omega
   have g3:0<=z:=by omega
   have g4:z<4:=by have:=u.out.2.2.2.2.1;omega
   obtain⟨T,hai⟩:∃T:Int,(W.at_ i:Int)=T:=⟨_,rfl⟩;have HAI:=hd1 hai;rw[hai];by_cases V:z=T
   ·have X:Hid (qam ⟨a,d,f,g,j,l,o,p,t⟩ (k+1) (qd4 W i)=qam ⟨a,d,f,g,j,l,o,p,t⟩ k (qd4 W i)):=if_pos (by show (k:Int)=a;rw[S.out.2,HAI.out,<-E.out];exact V);subst V
    go_wp2_with fail
    go_roundw
    case rel=>exact⟨k+1,z+1,by omega,by have:=E.out;omega,by go_num,by rw[X.out];exact L.out⟩
    simp[intOf];have:=E.out;omega
   have X:Hid (qam ⟨a,d,f,g,j,l,o,p,t⟩ (k+1) (qd4 W i)=zk (qam ⟨a,d,f,g,j,l,o,p,t⟩ k (qd4 W i)) ⟨k,.tx ⟨a,d,f,g,j,l,o,p,t⟩⟩):=if_neg (by show ¬(k:Int)=a;rw[S.out.2,HAI.out,<-E.out];exact V);have y:=hd1 (D.out.told u.out.1 u.out.2.1 u.out.2.2.1 u.out.2.2.2.1 L.out (zx _ _ _).n (zx _ _ _).c);have RMr:=y.out.rm;have lmr:=RMr.lt;obtain⟨x0,x1,x2,x3,x4,x5,x6,x7,x8⟩:=RMr.c9
   have SX:Hid (Ca 82 #[PP b,.agg #[U z,U a,U d,U f,U g,U j,U l,U o,U p,.slice v t.length x,U 0,U 0,U 0,U 0,U 0]] wr λe w'=>e=.returned (.tuple #[])/\qc5 H b {M with F:=jj M.F (W.at_ i) F'} R (zk (qam ⟨a,d,f,g,j,l,o,p,t⟩ k (qd4 W i)) ⟨k,.tx ⟨a,d,f,g,j,l,o,p,t⟩⟩) w'):=by
        obtain⟨yv',l',p1,p2,N⟩:=L.out
        have hin:W.at_ i<(qam ⟨a,d,f,g,j,l,o,p,t⟩ k (qd4 W i)).n:=by rw[(zx _ _ _).n];exact u.out.2.2.2.1
        have ok:GrR.Ok wr (qam ⟨a,d,f,g,j,l,o,p,t⟩ k (qd4 W i)).n ({M with F:=jj M.F (W.at_ i) F'}:RoM).F ⟨⟨k,.tx ⟨a,d,f,g,j,l,o,p,t⟩⟩,v,x⟩:=by
         refine⟨y.out.wi,λq e=>?_,λ_ _ _ _ _ e=>by simp at e⟩;obtain⟨ob,hob⟩:=D.out.2.2.2.2.2.2 q e;exact⟨W.at_ i,ob,hin,by show jj M.F (W.at_ i) F' (W.at_ i) q=_;rw[qt];exact hob⟩
        refine(qlu wr p1 ⟨⟨k,.tx ⟨a,d,f,g,j,l,o,p,t⟩⟩,v,x⟩ ok (by rw[E.out];rfl)).mono λe w' ⟨he,Y⟩=>⟨he,?_⟩;have s:=N.size;obtain⟨yv2,l2,g1',g2',gt⟩:=Y;refine⟨yv2,l2,g1',λq e=>(g2' q e).elim (p2 q) (λr=>.inr (by omega)),N.more gt (λq e=>?_)⟩;exact e.elim (λr=>.inl (.inl r)) (λr=>(p2 q r).imp .inr id)
   go_wp2_with fail
   refine SX.out.mono ?_;rintro e w5 ⟨rfl,Y⟩;have SN:=hd1 Y
   go_wp2_with fail
   go_roundw
   case rel=>exact⟨k+1,z+1,by omega,by have:=E.out;omega,by go_num,by rw[X.out];exact SN.out⟩
   simp[intOf];have:=E.out;omega
  have g1:¬z<(W.n:Int):=by omega
  have e:k=W.n:=by omega
  have y:Hid (quy w wr b G (wcW W i) (⟨⟨a,d,f,g,j,l,o,p,t⟩,v,x⟩:TxM) mb):=by have:=D.out.told u.out.1 u.out.2.1 u.out.2.2.1 u.out.2.2.2.1 L.out (zx _ _ _).n (zx _ _ _).c;rw[e,<-S.out.1]at this;exact this
  have I:=y.out.rm;have C:=y.out.rt;obtain⟨y0,y1,y2,y3,y4,y5,y6,y7,y8⟩:=I.c9;obtain⟨t0,t1,N,t3,t4,t5,t6,t7,t8⟩:=C.c9;obtain⟨f0,f1,f2,f3,f4,f5,f6,f7,f8⟩:=C.f9;have J:=And.intro (yz C rfl a d f g j l o p (.slice v t.length x)) (y.out.done HGL.out (qaz (F:=λk=>k=w.heap.size) (qc.ofBelow (jcc _ wr)) rfl a d f g j l o p (.slice v t.length x)));simp only[js]at J;have K:Hid _:=J;have lm:=I.lt;have lr:=C.lt;have nm:=y.out.ne
  go_wp2_with fail
  (try simp only[Exit.inBlock,Exit.then])
  refine bodyPost_ret (qh6 K.out.1 rfl rfl) rfl ⟨(⟨⟨a,d,f,g,j,l,o,p,t⟩,v,x⟩:TxM),by rw[<-B.out.1];rfl,B.out.2,K.out.2⟩
 have HN:=hd1 (q5w (by rw[<-B.out.2];exact hsq))
 rotate_left
 have HN:=hd1 (q5w (by
  have e:wcE W i≠0:=by rw[<-B.out.1];exact hE
  have q:=qvj e;show ¬0<(qce _ _ _).seq;rw[q.1]
  decide))
 all_goals
  have y:Hid (quy w H b G (wcW W i) (⟨⟨a,d,f,g,j,l,o,p,t⟩,v,x⟩:TxM) mb):=by have:=D.out.told u.out.1 u.out.2.1 u.out.2.2.1 u.out.2.2.2.1 (qc5.none D.out.2.2.2.1 (jcc _ _)) rfl rfl;rw[<-HN.out]at this;exact this
  have I:=y.out.rm;have C:=y.out.rt;obtain⟨y0,y1,y2,y3,y4,y5,y6,y7,y8⟩:=I.c9;obtain⟨t0,t1,N,t3,t4,t5,t6,t7,t8⟩:=C.c9;obtain⟨f0,f1,f2,f3,f4,f5,f6,f7,f8⟩:=C.f9;have J:=And.intro (yz C rfl a d f g j l o p (.slice v t.length x)) (y.out.done HGL.out (qaz (F:=λk=>k=w.heap.size) (qc.ofBelow (jcc _ H)) rfl a d f g j l o p (.slice v t.length x)));simp only[js]at J;have K:Hid _:=J;have lm:=I.lt;have lr:=C.lt;have nm:=y.out.ne
  go_wp2_with fail
  (try simp only[Exit.inBlock,Exit.then])
  refine bodyPost_ret (qh6 K.out.1 rfl rfl) rfl ⟨(⟨⟨a,d,f,g,j,l,o,p,t⟩,v,x⟩:TxM),by rw[<-B.out.1];rfl,B.out.2,K.out.2⟩
end
section
open Go.RowKit
structure qhp (w:World) (hb b:Nat) (Gw:Nat->Prop) (W:WoS):Prop where
 box:w.heap[hb]?=some (.cells #[PP b] 49 (0,0))
 rw:RW w b Gw W
 n:¬Gw hb
def q2o (hb:Nat) (W:WoS) (w:World) (G:Nat->Prop):Prop:=∃b Gw,qhp w hb b Gw W/\∀k,G k↔(k=hb\/Gw k)
variable {w1:World}
section
variable {w w':World} {hb b:Nat} {Gw G:Nat->Prop} {W W':WoS}
theorem qhp.lt (h:qhp w hb b Gw W):hb<w.heap.size:=(jcs.1 h.box).1
theorem qhp.kept (h:qhp w hb b Gw W) (a:∀k,(k=hb\/Gw k)->w'.heap[k]?=w.heap[k]?) (d:w.heap.size<=w'.heap.size):qhp w' hb b Gw W:=
 ⟨(a hb (.inl rfl)).trans h.box,h.rw.kept (λk e=>a k (.inr e)) d,h.n⟩
theorem q2o.lt (h:q2o hb W w G):∀k,G k->k<w.heap.size:=λk a=>by
 obtain⟨b,Gw,h,d⟩:=h;rcases(d k).1 a with rfl|e
 ·exact h.lt
 exact h.rw.lt k e
theorem q2o.kept (h:q2o hb W w G) (d:∀k,G k->w'.heap[k]?=w.heap[k]?) (g:w.heap.size<=w'.heap.size):q2o hb W w' G:=by
 obtain⟨b,Gw,h,a⟩:=h;exact⟨b,Gw,h.kept (λk e=>d k ((a k).2 e)) g,a⟩
def hsP (hb:Nat) (W:WoS):qfr:=⟨λw G=>q2o hb W w G,λ_ _ h=>h.lt,λ_ _ _ h=>h.kept⟩
theorem qhp.later (h:qhp w hb b Gw W) (a:Bw w w'):qhp w' hb b Gw W:=
 h.kept (λk e=>a.block k (by rcases e with rfl|e;exact h.lt;exact h.rw.lt k e)) a.size
theorem qhp.cell (h:qhp w hb b Gw W):w.cell? (AD hb 0)=some (PP b):=by rw[Lib.cell_of_heap h.box];rfl
theorem qhp.op (h:qhp w hb b Gw W) (d:∀k,G k↔(k=hb\/Gw k)) (g:Bw w w1) (m:qae w1 b Gw W' w'):qbi (hsP hb W') w G w':=by
 obtain⟨j,p1,p2,a⟩:=m;have l:=h.later g;have lc:=l.lt;refine⟨λk=>k=hb\/j k,⟨b,j,⟨(a.block hb lc h.n).trans l.box,p1,λe=>?_⟩,λ_=>jdl⟩,λk i=>?_,?_⟩
 ·rcases p2 hb e with q|q
  ·exact h.n q
  omega
 ·rcases i with rfl|e
  ·exact .inl ((d k).2 (.inl rfl))
  rcases p2 k e with q|q
  ·exact .inl ((d k).2 (.inr q))
  exact .inr (jcn g.size q)
 exact(qc.ofBelow g).trans ⟨a.os,a.tape,a.output,a.size,λk i o=>a.block k i (λe=>o ((d k).2 (.inr e)))⟩
theorem qhp.same (h:qhp w hb b Gw W) (d:∀k,G k↔(k=hb\/Gw k)) (a:Bw w w'):qbi (hsP hb W) w G w':=
 ⟨G,⟨b,Gw,h.later a,d⟩,λ_ e=>.inl e,qc.ofBelow a⟩
theorem q7n (h:qbi (hsP hb W') w G w1) (a:Bw w1 w'):qbi (hsP hb W') w G w':=by
 obtain⟨d,p1,p2,g⟩:=h;exact⟨d,p1.kept (λk e=>a.block k (p1.lt k e)) a.size,p2,g.trans (qc.ofBelow a)⟩
end
variable {w:World} {W:WoS}
theorem RW.lens {b:Nat} {G:Nat->Prop} (h:RW w b G W):∃a0 a a2 d e g,w.cell? (AD b 0)=some (.slice a0 W.n a)/\w.cell? (AD b 2)=some (.slice a2 W.c d)/\w.cell? (AD b 4)=some (.slice e W.net.length g)/\w.cell? (AD b 5)=some (U W.lost)/\b<w.heap.size:=by
 obtain⟨M,r,h,_⟩:=h;obtain⟨a0,a,m,_⟩:=qq h.sr;obtain⟨a2,d,o,_⟩:=qq h.cr;obtain⟨e,g,p,_⟩:=qq h.yr
 have q:M.l.length=W.net.length:=by rw[<-h.nl];simp
 have i:=h.box.cell 0 _ rfl;have j:=h.box.cell 2 _ rfl;have k:=h.box.cell 4 _ rfl;rw[m]at i;rw[o]at j;rw[p,q]at k;exact⟨a0,a,a2,d,e,g,i,j,k,h.box.cell 5 _ rfl,h.box.lt⟩
structure qx9 (w:World) (B:Nat) (a:Option Addr) (cap:Nat) (ns:List Int):Prop where
 cap:ns.length<=cap
 cell:∀(j:Nat) x,ns[j]?=some x->∃g,a=some (AD g 0)/\B<=g/\g<w.heap.size/\w.cell? (AD g j)=some (U x)
variable {ns:List Int}
theorem qx9.later {w':World} {B:Nat} {a:Option Addr} {cap:Nat} (h:qx9 w B a cap ns) (hb:Bw w w'):qx9 w' B a cap ns:=
 ⟨h.cap,λj x e=>by obtain⟨g,i,k,d,l⟩:=h.cell j x e;exact⟨g,i,k,jci d hb.size,(hb.cell (p:=AD g j) d).trans l⟩⟩
def thC (W:WoS) (c:UInt8) (n:Int):Bool:=if c=99 then inB n 0 ((W.c:Int)-1)else if c=115 then inB n 0 ((W.n:Int)-1)else if c=105 then inB n 0 ((W.net.length:Int)-1)else true
def thB (W:WoS):List UInt8->List Int->Bool
 |[],_=>true
 |c::f,ns=>if c=119 then thB W f ns else match ns with
  |[]=>true
  |n::r=>thC W c n&&thB W f r
def qhk:List UInt8->Nat
 |[]=>0
 |c::f=>if c=119 then qhk f else qhk f+1
variable {c:UInt8} {f:List UInt8}
theorem jbm (e:c=119):thB W (c::f) ns=thB W f ns:=if_pos e
theorem jbl {n:Int} {r:List Int} (e:¬c=119):thB W (c::f) (n::r)=(thC W c n&&thB W f r):=if_neg e
theorem q54 (e:c=119):qhk (c::f)=qhk f:=if_pos e
theorem qxs (e:¬c=119):qhk (c::f)=qhk f+1:=if_neg e
end
section
open Go.RowKit
theorem qxb {X b B:Nat} {Gw:Nat->Prop} {W:WoS} {a:Option Addr} {cap:Nat} (f:List UInt8) (ns:List Int) (hf:f.length<=3) (ha:∀c∈f,c.toNat<128) (hn:qhk f=ns.length) (w:World) (h:qhp w X b Gw W) (Y:WfW W) (hN:qx9 w B a cap ns):
 Ca 30 #[PP X,.string (bya f),.slice a ns.length cap] w (Rn (.bool (thB W f ns)) w):=by
 have hne:=qb.one;have hcn:=Y.c6;have hnn:=Y.n4;have hnet:=Y.net;have hcap:=hN.cap;obtain⟨a0,k0,a2,k2,a4,k4,c0,c2,c4,_,Z⟩:=h.rw.lens;have hc:=h.cell;have hbox:=h.lt;have HN:=hd1 hN;have HA:=hd1 ha
 have hn3:ns.length<=3:=by
  have:∀l:List UInt8,qhk l<=l.length:=λl=>by
   induction l with
   |nil=>exact jcd _
   |cons c r ih=>unfold qhk;split<;>simp only[List.length_cons]<;>omega
  have:=this f;omega
 have HF:=hd1 hn;go_enter Tryz.func30,Tryz.ntmps30
 go_wp2
 go_loopw [7] (λkv wr=>∃(p k:Nat) (z:Int),p<=f.length/\k<=ns.length/\z=k/\kv=U z/\wr.heap[w.heap.size]?=some (.stringIter (bya f) p)/\Hid (thB W f ns=thB W (f.drop p) (ns.drop k)/\qhk (f.drop p)=(ns.drop k).length)/\Bw w wr) (λ_ wr=>f.length-wr.iterPos w.heap.size)
 case atStart=>exact⟨0,0,0,jcw _,jcw _,rfl,rfl,World.iter_heap w (bya f) 0,⟨rfl,HF.out⟩,(jcc _ w).alloc (jcd _) _⟩
 obtain⟨p,k,z,hp,hk,hz,rfl,Q,HT,G⟩:=hrel;have J:=hd1 hz;have K:=hd1 Q;by_cases R:p<f.length
 ·obtain⟨c,aa⟩:∃c,f[p]=c:=⟨_,rfl⟩
  have hdf:f.drop p=c::f.drop (p+1):=by rw[jdy R,aa]
  have t:(Instr.next (PP w.heap.size) true 0).run Tryz.prog wr=.ok (.tuple #[.bool true,U p,.int .i32 (c.toNat:Int)]) (wr.iterAt w.heap.size (bya f) (p+1)):=by
   have hs:p<(bya f).size:=by rw[Lib.size_eq];exact R
   have hx:(bya f)[p]'hs=c:=by rw[<-aa];rfl
   have:=Lib.run_next_ascii_at (P:=Tryz.prog) wr w.heap.size (bya f) p 0 Q hs (by rw[hx];exact HA.out c (by rw[<-aa];exact jdr R));rw[hx]at this;exact this
  obtain⟨H,C⟩:∃H,wr.iterAt w.heap.size (bya f) (p+1)=H:=⟨_,rfl⟩
  have ot:∀j,j≠w.heap.size->H.heap[j]?=wr.heap[j]?:=λj hj=>by rw[<-C];exact Lib.iterAt_other _ _ _ _ _ hj
  have s1:H.heap.size=wr.heap.size:=by rw[<-C];exact Lib.iterAt_size _ _ _ _
  have hit1:H.heap[w.heap.size]?=some (.stringIter (bya f) (p+1)):=by rw[<-C];exact Lib.iterAt_heap _ _ _ _ _ Q
  have hb1:Bw w H:=by
   refine⟨?_,?_,?_,by rw[s1];exact G.size,λj hj=>(ot j (by omega)).trans (G.block j hj)⟩
   ·rw[<-C];exact G.os
   ·rw[<-C];exact G.tape
   rw[<-C];exact G.output
  have lt1:=(jcs.1 hit1).1;rw[C]at t;have D:=hd1 hit1;have m:=hd2 hb1 lt1;obtain⟨S,L⟩:=HT.out;rw[hdf]at S L;by_cases E:c=119
  ·have d:=hd2 (S.trans (jbm E)) ((q54 E).symm.trans L)
   have s:(c.toNat:Int)=119:=by rw[E];rfl
   rw[s]at t
   go_wp2
   go_roundw
   case rel=>exact⟨p+1,k,z,by omega,hk,J.out,rfl,D.out,d.out,m.out.1⟩
   rw[iterPos_of D.out,iterPos_of K.out];omega
  have hk2:k<ns.length:=by
   rw[qxs E,jdt]at L;omega
  obtain⟨n,hnx⟩:∃n,ns[k]=n:=⟨_,rfl⟩
  have hdn:ns.drop k=n::ns.drop (k+1):=by rw[jdy hk2,hnx]
  obtain⟨g,rfl,_,hgl,cg⟩:=HN.out.cell k n (by rw[jcg hk2,hnx]);rw[hdn]at S L;have F:=S.trans (jbl E)
  have T:qhk (f.drop (p+1))=(ns.drop (k+1)).length:=by
   rw[qxs E,List.length_cons]at L;omega
  have M:=λ(q:Addr) (v:Value) (hq:q.block<w.heap.size) (e:w.cell? q=some v)=>qb.cell ((hb1.cell (p:=q) hq).trans e);have l0:=M (AD X 0) _ hbox hc;have l1:=M (AD b 0) _ Z c0;have l2:=M (AD b 2) _ Z c2;have l4:=M (AD b 4) _ Z c4;have l5:=M (AD g k) _ hgl cg
  have g1:0<=z:=by omega
  have g2:z<(ns.length:Int):=by omega
  have g3:z.toNat=k:=by omega
  have g4:z<3:=by omega
  by_cases I:c=99
  ·have u:thC W c n=inB n 0 ((W.c:Int)-1):=by unfold thC;rw[if_pos I]
   have s:(c.toNat:Int)=99:=by rw[I];rfl
   cases hin:inB n 0 ((W.c:Int)-1)
   ·have o:=λx:World=>vj hin x
    have d:Hid (thB W f ns=false):=by show _=_;rw[F,u,hin];rfl
    rw[s]at t
    go_wp2_with fail
    refine wrl ?_
    repeat (go_big_quiet_step (first|rfl|(go_at_call 28;with_reducible exact qg (o _))))
    refine wpQuiet_nil ?_;rintro w2 ⟨⟨_,i⟩,rfl⟩
    go_wp2
    go_ret;exact⟨by rw[d.out];rfl,qa m.out.1 i⟩
   have o:=λx:World=>vj hin x;have d:=hd2 (show thB W f ns=thB W (f.drop (p+1)) (ns.drop (k+1))from by rw[F,u,hin];rfl) T;rw[s]at t
   go_wp2_with fail
   refine wrl ?_
   repeat (go_big_quiet_step (first|rfl|(go_at_call 28;with_reducible exact qg (o _))))
   refine wpQuiet_nil ?_;rintro w2 ⟨⟨_,i⟩,rfl⟩;have y:=(i.block _ (by have:=m.out.2;omega)).trans D.out;have N:=qa m.out.1 i
   go_wp2
   go_roundw
   case rel=>exact⟨p+1,k+1,z+1,by omega,by omega,by have:=J.out;omega,by go_num,y,d.out,N⟩
   rw[iterPos_of y,iterPos_of K.out];omega
  by_cases O:c=115
  ·have u:thC W c n=inB n 0 ((W.n:Int)-1):=by unfold thC;rw[if_neg I,if_pos O]
   have s:(c.toNat:Int)=115:=by rw[O];rfl
   cases hin:inB n 0 ((W.n:Int)-1)
   ·have o:=λx:World=>vj hin x
    have d:Hid (thB W f ns=false):=by show _=_;rw[F,u,hin];rfl
    rw[s]at t
    go_wp2_with fail
    refine wrl ?_
    repeat (go_big_quiet_step (first|rfl|(go_at_call 28;with_reducible exact qg (o _))))
    refine wpQuiet_nil ?_;rintro w2 ⟨⟨_,i⟩,rfl⟩
    go_wp2
    go_ret;exact⟨by rw[d.out];rfl,qa m.out.1 i⟩
   have o:=λx:World=>vj hin x;have d:=hd2 (show thB W f ns=thB W (f.drop (p+1)) (ns.drop (k+1))from by rw[F,u,hin];rfl) T;rw[s]at t
   go_wp2_with fail
   refine wrl ?_
   repeat (go_big_quiet_step (first|rfl|(go_at_call 28;with_reducible exact qg (o _))))
   refine wpQuiet_nil ?_;rintro w2 ⟨⟨_,i⟩,rfl⟩;have y:=(i.block _ (by have:=m.out.2;omega)).trans D.out;have N:=qa m.out.1 i
   go_wp2
   go_roundw
   case rel=>exact⟨p+1,k+1,z+1,by omega,by omega,by have:=J.out;omega,by go_num,y,d.out,N⟩
   rw[iterPos_of y,iterPos_of K.out];omega
  by_cases V:c=105
  ·have u:thC W c n=inB n 0 ((W.net.length:Int)-1):=by unfold thC;rw[if_neg I,if_neg O,if_pos V]
   have s:(c.toNat:Int)=105:=by rw[V];rfl
   cases hin:inB n 0 ((W.net.length:Int)-1)
   ·have o:=λx:World=>vj hin x
    have d:Hid (thB W f ns=false):=by show _=_;rw[F,u,hin];rfl
    rw[s]at t
    go_wp2_with fail
    refine wrl ?_
    repeat (go_big_quiet_step (first|rfl|(go_at_call 28;with_reducible exact qg (o _))))
    refine wpQuiet_nil ?_;rintro w2 ⟨⟨_,i⟩,rfl⟩
    go_wp2
    go_ret;exact⟨by rw[d.out];rfl,qa m.out.1 i⟩
   have o:=λx:World=>vj hin x;have d:=hd2 (show thB W f ns=thB W (f.drop (p+1)) (ns.drop (k+1))from by rw[F,u,hin];rfl) T;rw[s]at t
   go_wp2_with fail
   refine wrl ?_
   repeat (go_big_quiet_step (first|rfl|(go_at_call 28;with_reducible exact qg (o _))))
   refine wpQuiet_nil ?_;rintro w2 ⟨⟨_,i⟩,rfl⟩;have y:=(i.block _ (by have:=m.out.2;omega)).trans D.out;have N:=qa m.out.1 i
   go_wp2
   go_roundw
   case rel=>exact⟨p+1,k+1,z+1,by omega,by omega,by have:=J.out;omega,by go_num,y,d.out,N⟩
   rw[iterPos_of y,iterPos_of K.out];omega
  have e119':¬((c.toNat:Int)=119):=λq=>E (UInt8.toNat.inj (by show c.toNat=119;omega));have e99':¬((c.toNat:Int)=99):=λq=>I (UInt8.toNat.inj (by show c.toNat=99;omega));have e115':¬((c.toNat:Int)=115):=λq=>O (UInt8.toNat.inj (by show c.toNat=115;omega));have e105':¬((c.toNat:Int)=105):=λq=>V (UInt8.toNat.inj (by show c.toNat=105;omega));have d:=hd2 (show thB W f ns=thB W (f.drop (p+1)) (ns.drop (k+1))from by rw[F];unfold thC;rw[if_neg I,if_neg O,if_neg V];rfl) T
  go_wp2
  go_roundw
  case rel=>exact⟨p+1,k+1,z+1,by omega,by omega,by have:=J.out;omega,by go_num,D.out,d.out,m.out.1⟩
  rw[iterPos_of D.out,iterPos_of K.out];omega
 have t:(Instr.next (PP w.heap.size) true 0).run Tryz.prog wr=.ok (.tuple #[.bool false]) wr:=Lib.run_next_end_at wr w.heap.size (bya f) p 0 Q (by rw[Lib.size_eq];exact R)
 have d:Hid (thB W f ns=true):=by
  show _=_;rw[HT.out.1,jdw (by omega)];rfl
 have HB:=hd1 G
 go_wp2
 go_ret;exact⟨by rw[d.out];rfl,HB.out⟩
end
section
open Go.RowKit
theorem q3y:(Tryz.prog.info? 167).map (λi=>(i.zero,i.size,i.bytes))=some (some (.agg #[.pointer none,U 0]),2,16):=by kernel_rfl
theorem qxk:(Tryz.prog.info? 171).map (λi=>(i.zero,i.size,i.bytes))=some (some (.agg #[.pointer none,U 0]),2,16):=by kernel_rfl
def q9t:WoM:=⟨.slice none 0 0,.slice none 0 0,.slice none 0 0,λ_=>0,λ_=>0,[]⟩
theorem q3a (w:World) (T:TypeId):PWo (w.alloc (.cells #[.slice none 0 0,.slice none 0 0,.slice none 0 0,U 0] T)) w.heap.size q9t (qcb 0 0) (λ_ _=>False):=by
 refine⟨qd.new (w:=w) (T:=T) [.slice none 0 0,.slice none 0 0,.slice none 0 0,U 0] rfl,jcx _ _ _ _,jcx _ _ _ _,jcx _ _ _ _,rfl,λm a=>(by cases a),⟨λi hi=>by simp[qcb]at hi,λi j k hi=>by simp[qcb]at hi,λk b=>?_,λk b=>b.elim⟩,⟨λe=>(by cases e),λe=>(by cases e),λe=>(by cases e)⟩,λk=>⟨λe=>(by cases e),λe=>(by cases e)⟩,λm a=>(by cases a)⟩;rcases b with e|e|e|e|⟨m,a,_⟩
 ·exact⟨by rw[e];simp,λi hi=>by simp[qcb]at hi⟩
 ·cases e
 ·cases e
 ·cases e
 cases a
theorem jbh (w:World):∀k,qfw w.heap.size q9t k->w.heap.size<=k:=λk a=>by
 rcases a with e|e|e|e|⟨m,b,_⟩
 ·omega
 ·cases e
 ·cases e
 ·cases e
 cases b
structure qur (w:World) (M:WoM) (W:WoS) (Gs:Nat->Nat->Prop) (wr:World):Prop where
 is:PWo wr w.heap.size M W Gs
 gs:∀j k,j<W.n+W.c->Gs j k->w.heap.size<=k
 ft:∀k,qfw w.heap.size M k->w.heap.size<=k
 nl:M.l=[]
 hb:Bw w wr
theorem jbc {n c:Nat} (X:1<=n) (h4:n<=4) (h6:c<=6) (w:World):
 Ca 65 #[U n,U c] w λe w'=>e=.returned (.tuple #[PP w.heap.size,.nilIface])/\∃G,PW w' w.heap.size G (qcb n c)/\(∀k,G k->w.heap.size<=k)/\Bw w w':=by
 obtain⟨i0,hi0,hz0,hz1,hz2⟩:=info_parts q3y;obtain⟨i5,hi5,hy0,hy1,hy2⟩:=info_parts qxk
 have q1:¬(n:Int)<1:=by omega
 have q2:¬4<(n:Int):=by omega
 have q3:¬(c:Int)<0:=by omega
 have q4:¬6<(c:Int):=by omega
 have B:=hd2 h4 h6;have N0:Hid (qur w q9t (qcb 0 0) (λ_ _=>False) (w.alloc (.cells #[.slice none 0 0,.slice none 0 0,.slice none 0 0,U 0] 162))):=⟨q3a w _,λ_ _ _ h=>h.elim,jbh w,rfl,boxed (jcc _ w) _⟩;go_enter Tryz.func65,Tryz.ntmps65
 go_wp2_with fail
 go_loopw [28] (λiv wr=>∃(k:Nat) (z:Int) (M:WoM) (d:Nat->Nat->Prop),k<=n/\z=k/\iv=U z/\Hid (qur w M (qcb k 0) d wr)) (λiv _=>n-(intOf iv).toNat)
 case atStart=>exact⟨0,0,q9t,_,by omega,rfl,rfl,N0.out⟩
 obtain⟨k,z,M,d,hk,hz,rfl,a⟩:=hrel;have N:=hd1 hz;by_cases hlt:k<n
 ·have O:z<(n:Int):=by omega
  have Y:0<=z:=by omega
  have Z:z<4:=by have:=B.out;omega
  have NN:=q94 z wr Y Z;obtain⟨pa,pc,hpv,r⟩:=qq a.out.is.pr;have hrl:=r.len;have hrc:=r.cap;have l:Hid (M.pv=.slice pa k pc):=hpv
  go_wp2_with fail
  refine NN.mono ?_;rintro e w2 ⟨rfl,K,b⟩;rw[N.out]at K;have HP2:=hd2 K b;have o:=boxed (jcc _ w2) (.cells #[PP (wr.heap.size+1),U 0] 167);have D:=qf a.out.is.pr (λq e=>b.block q (a.out.is.pr.lt q e).2);have C:=(a.out.is.box.later b).later o;rw[l.out]at D C;have c0:=(a.out.is.box.later b).cell 0 _ rfl;rw[l.out]at c0;have hlw:=(a.out.is.box.later b).lt
  go_wp2_with (at_builtin;refine wpList_append_lies _ rfl (.tmp 43) (.tmp 46) 158 rfl 0 167 i0 (.agg #[.pointer none,U 0]) 2 16 Tryz.underlying158 hi0 hz0 hz1 hz2 rfl (by decide) (.slice pa k pc) k (zt M.bp (qcb k 0).wall k) rfl (D.alloc _) (AD w2.heap.size 0) 1 1 [PP (wr.heap.size+1),U 0] rfl rfl (World.news_of_block (heap_alloc_new w2 (.cells #[PP (wr.heap.size+1),U 0] 167))) (by intro u E;simp at E;rcases E with rfl|rfl<;>rfl) (by decide) (by have:=B.out;simp only[maxLen];omega) (by have:=B.out;omega) (jcw _) _ rfl ?_;intro g i s P t F Q;have H:qd s w.heap.size _:=C.grown t (λe=>a.out.is.sb.1 (by rw[l.out];exact e.symm));have e0:=H.cell 0 _ rfl;have f0:=H.free 0 (by simp))
  have R:=a.out.is.addSite rfl HP2.out.1 (by omega) (by omega) rfl b o P (by rw[l.out];exact t) (by rw[l.out];exact F) Q;have hsz:=a.out.hb.size
  have S:∀j q,j<(qcb (k+1) 0).n+(qcb (k+1) 0).c->(λj=>if j=k then (λq=>q=wr.heap.size+1\/q=wr.heap.size)else d j) j q->w.heap.size<=q:=λj q I e=>by
   have f:(if j=k then (λq=>q=wr.heap.size+1\/q=wr.heap.size)else d j) q:=e;by_cases J:j=k
   ·rw[if_pos J]at f
    rcases f with f|f<;>omega
   rw[if_neg J]at f;exact a.out.gs j q (by simp[qcb]at I ⊢;omega) f
  have T:∀q,qfw w.heap.size {M with pv:=.slice (PT g) (k+1) i,bp:=λj=>if j=k then wr.heap.size+1 else M.bp j} q->w.heap.size<=q:=λq e=>by
   rcases e with e|e|e|e|⟨m,hm,e⟩
   ·omega
   ·have f:g=q:=jcu e;rcases F with r|r
    ·exact a.out.ft q (.inr (.inl (by rw[l.out,<-f];exact r)))
    simp at r;have:=b.size;omega
   ·exact a.out.ft q (.inr (.inr (.inl e)))
   ·exact a.out.ft q (.inr (.inr (.inr (.inl e))))
   exact a.out.ft q (.inr (.inr (.inr (.inr ⟨m,hm,e⟩))))
  have V:Bw w (s.setCell (AD w.heap.size 0) (.slice (PT g) (k+1) i)):=((qa (qa a.out.hb b) o).grown t (by have:=b.size;simp;omega) (λq e=>a.out.ft q (.inr (.inl (by rw[l.out];exact e))))).setCell (p:=AD w.heap.size 0) (jcd _) _;have W:Hid (qur w {M with pv:=.slice (PT g) (k+1) i,bp:=λj=>if j=k then wr.heap.size+1 else M.bp j} (qcb (k+1) 0) (λj=>if j=k then (λq=>q=wr.heap.size+1\/q=wr.heap.size)else d j) (s.setCell (AD w.heap.size 0) (.slice (PT g) (k+1) i))):=⟨R,S,T,a.out.nl,V⟩
  go_roundw
  case rel=>exact⟨k+1,z+1,_,_,by omega,by have:=N.out;omega,by go_num,W.out⟩
  simp[intOf];have:=N.out;omega
 have O:¬z<(n:Int):=by omega
 have ek:k=n:=by omega
 subst ek;have H0:=a
 go_wp2_with fail
 go_loopw [52] (λiv wr=>∃(m:Nat) (y:Int) (M:WoM) (d:Nat->Nat->Prop),m<=c/\y=m/\iv=U y/\Hid (qur w M (qcb k m) d wr)) (λiv _=>c-(intOf iv).toNat)
 case atStart=>exact⟨0,0,M,d,by omega,rfl,rfl,H0.out⟩
 obtain⟨m,y,M,d,hm,hy,rfl,a⟩:=hrel;have HY:=hd1 hy;by_cases hml:m<c
 ·have O:y<(c:Int):=by omega
  have Y:0<=y:=by omega
  have Z:y<6:=by have:=B.out;omega
  obtain⟨ca,cc,hcv,r⟩:=qq a.out.is.cr;have hrl:=r.len;have hrc:=r.cap;have v:Hid (M.cv=.slice ca m cc):=hcv;have L:=a.out.is.box;rw[v.out]at L;have c1:=L.cell 1 _ rfl;have hlw:=L.lt;have SN:Hid (Ca 118 #[] wr.drew λe w'=>e=.returned (PP wr.heap.size)/\PSe w' wr.heap.size (λk=>k=wr.heap.size) qez/\Bw wr w'):=(q2h wr.drew).mono λe w' ⟨X,h2,h3⟩=>⟨X,h2,qa (jcc _ wr).drew h3⟩
  go_wp2_with fail
  go_region_law (first
   |(refine qah rfl 118 rfl #[] (by go_simp) SN.out ?_
     rintro e w2 ⟨rfl,K,b⟩;refine⟨_,rfl,?_⟩;have o:=boxed (jcc _ w2) (.cells #[PP wr.heap.size,U 0] 171);have D:=qf a.out.is.cr (λq e=>b.block q (a.out.is.cr.lt q e).2);rw[v.out]at D;have C:=L.later b;have k1:=C.cell 1 _ rfl
     have hl2:=C.lt)
   |(refine step_append_lies _ rfl (.tmp 58) (.tmp 61) 159 rfl 0 171 i5 (.agg #[.pointer none,U 0]) 2 16 Tryz.underlying159 hi5 hy0 hy1 hy2 rfl (by decide) (.slice ca m cc) m (zt M.bs (λj=>((qcb k m).at_ j:Int)) m) (by simp[Act.eval]) (D.alloc _) (AD w2.heap.size 0) 1 1 [PP wr.heap.size,U 0] (by simp[Act.eval]) rfl (World.news_of_block (heap_alloc_new w2 (.cells #[PP wr.heap.size,U 0] 171))) (by intro u E;simp at E;rcases E with rfl|rfl<;>rfl) (by decide) (by have:=B.out;simp only[maxLen];omega) (by have:=B.out;omega) (jcw _) _ rfl ?_
     intro g i s P t F Q;have H:qd s w.heap.size _:=(C.later o).grown t (λe=>a.out.is.sb.2.1 (by rw[v.out];exact e.symm));have e0:=H.cell 1 _ rfl
     have f0:=H.free 1 (by simp)))
  all_goals
   have R:=a.out.is.addSes K (jcd _) rfl b o P (by rw[v.out];exact t) (by rw[v.out];exact F) Q;have hsz:=a.out.hb.size;have s2:=b.size
   have S:∀j q,j<(qcb k (m+1)).n+(qcb k (m+1)).c->(λj=>if j=k+m then (λq=>q=wr.heap.size)else d j) j q->w.heap.size<=q:=λj q I e=>by
        have f:(if j=k+m then (λq=>q=wr.heap.size)else d j) q:=e;by_cases J:j=k+m
        ·rw[if_pos J]at f;omega
        rw[if_neg J]at f;exact a.out.gs j q (by simp[qcb]at I ⊢;omega) f
   have T:∀q,qfw w.heap.size {M with cv:=.slice (PT g) (m+1) i,bs:=λj=>if j=m then wr.heap.size else M.bs j} q->w.heap.size<=q:=λq e=>by
        rcases e with e|e|e|e|⟨x,hx,e⟩
        ·omega
        ·exact a.out.ft q (.inr (.inl e))
        ·have f:g=q:=jcu e;rcases F with r|r
         ·exact a.out.ft q (.inr (.inr (.inl (by rw[v.out,<-f];exact r))))
         simp at r;omega
        ·exact a.out.ft q (.inr (.inr (.inr (.inl e))))
        exact a.out.ft q (.inr (.inr (.inr (.inr ⟨x,hx,e⟩))))
   have V:Bw w (s.setCell (AD w.heap.size 1) (.slice (PT g) (m+1) i)):=((qa (qa a.out.hb b) o).grown t (by simp;omega) (λq e=>a.out.ft q (.inr (.inr (.inl (by rw[v.out];exact e)))))).setCell (p:=AD w.heap.size 1) (jcd _) _;have W:Hid (qur w {M with cv:=.slice (PT g) (m+1) i,bs:=λj=>if j=m then wr.heap.size else M.bs j} (qcb k (m+1)) (λj=>if j=k+m then (λq=>q=wr.heap.size)else d j) (s.setCell (AD w.heap.size 1) (.slice (PT g) (m+1) i))):=⟨R,S,T,a.out.nl,V⟩
   go_wp2_with fail
   go_roundw
   case rel=>exact⟨m+1,y+1,_,_,by omega,by have:=HY.out;omega,by go_num,W.out⟩
   simp[intOf];have:=HY.out;omega
 have O:¬y<(c:Int):=by omega
 have em:m=c:=by omega
 subst em
 go_wp2_with fail
 go_ret2;exact⟨rfl,qmp w.heap.size M (k+m) d,⟨M,d,a.out.is,λ_=>jdl⟩,λq hq=>hq.elim (a.out.ft q) (λ⟨j,I,e⟩=>a.out.gs j q I e),a.out.hb⟩
end
section
open Go.RowKit
def qgr (i:Nat) (W:WoS) (l:List Int) (d:ByteArray) (w:World) (b:Nat) (G:Nat->Prop) (e:Ending) (w':World):Prop:=
 ∃W' er,qaa i W l d W' er (qn i)/\e=.returned (jc er)/\vh w b G W' w'
variable {k:Int}
section
variable {b:Nat} {G:Nat->Prop} {W:WoS} {j:Nat}
theorem zq {n:Nat} (h:ye k n):∃i:Nat,k=i/\i<n/\k.toNat=i:=⟨k.toNat,by have:=h.1;omega,by have:=h.1;have:=h.2;omega,rfl⟩
theorem q4g (k:Int) (w:World) (h:PW w b G W):Ca 94 #[PP b,U k] w (qgr 0 W [k] ⟨#[]⟩ w b G):=by
 by_cases a:ye k W.c
 ·obtain⟨i,rfl,hi,e⟩:=zq a;exact(q36 w h hi).mono λ_ _ ⟨d,f⟩=>⟨_,_,⟨rfl,by rw[if_pos a];exact⟨rfl,rfl⟩⟩,d,f⟩
 exact(qwi k w h a).mono λ_ _ ⟨d,f⟩=>⟨W,2,⟨rfl,by rw[if_neg a];exact⟨rfl,rfl⟩⟩,d,vh.same h f⟩
theorem q5d (k:Int) (w:World) (h:PW w b G W) (g:PlI j W):Ca 98 #[PP b,U k] w (qgr 2 W [k] ⟨#[]⟩ w b G):=by
 by_cases a:ye k W.c
 ·obtain⟨i,rfl,hi,e⟩:=zq a;exact(q4w w h g.wf hi).mono λ_ _ ⟨d,f⟩=>⟨_,_,⟨rfl,by rw[if_pos a];exact⟨rfl,rfl⟩⟩,d,f⟩
 exact(qt8 k w h a).mono λ_ _ ⟨d,f⟩=>⟨W,2,⟨rfl,by rw[if_neg a];exact⟨rfl,rfl⟩⟩,d,vh.same h f⟩
theorem ja6 (k o:Int) (w:World) (h:PW w b G W) (l:PlI j W):Ca 96 #[PP b,U k,U o] w (qgr 1 W [k,o] ⟨#[]⟩ w b G):=by
 by_cases d:ye k W.n
 ·obtain⟨i,rfl,hi,e⟩:=zq d;by_cases f:ye o W.n
  ·obtain⟨m,rfl,p,r⟩:=zq f;by_cases g:i=m
   ·subst g;exact(qv9 w h hi).mono λ_ _ ⟨a,c⟩=>⟨W,2,⟨rfl,by rw[if_neg (λq=>q.2.2 rfl)];exact⟨rfl,rfl⟩⟩,a,c⟩
   exact(q7k w h l.wf hi p g).mono λ_ _ ⟨a,c⟩=>⟨_,_,⟨rfl,by rw[if_pos ⟨d,f,by omega⟩];exact⟨rfl,rfl⟩⟩,a,c⟩
  exact(qxx o w h hi f).mono λ_ _ ⟨a,c⟩=>⟨W,2,⟨rfl,by rw[if_neg (λq=>f q.2.1)];exact⟨rfl,rfl⟩⟩,a,vh.same h c⟩
 exact(q2g k o w h d).mono λ_ _ ⟨a,c⟩=>⟨W,2,⟨rfl,by rw[if_neg (λq=>d q.1)];exact⟨rfl,rfl⟩⟩,a,vh.same h c⟩
theorem qi2 (a:ye k W.net.length):∃(i:Nat) (g:GrS),k=i/\k.toNat=i/\W.net[i]?=some g:=by
 obtain⟨i,e,hi,c⟩:=zq a;exact⟨i,W.net[i],e,c,jcg hi⟩
theorem qyp (k:Int) (w:World) (h:PW w b G W) (f:PlI j W):Ca 104 #[PP b,U k] w (qgr 6 W [k] ⟨#[]⟩ w b G):=by
 by_cases a:ye k W.net.length
 ·obtain⟨i,g,rfl,e,l⟩:=qi2 a;exact(qp6 w h f.wf l).mono λ_ _ ⟨c,W',d,m⟩=>⟨W',0,⟨rfl,by rw[if_pos a];exact⟨d.out,rfl⟩⟩,c,m⟩
 exact(qo9 k w h a).mono λ_ _ ⟨c,d⟩=>⟨W,2,⟨rfl,by rw[if_neg a];exact⟨rfl,rfl⟩⟩,c,vh.same h d⟩
theorem q99 (k:Int) (w:World) (h:PW w b G W) (f:PlI j W):Ca 109 #[PP b,U k] w (qgr 10 W [k] ⟨#[]⟩ w b G):=by
 by_cases a:ye k W.net.length
 ·obtain⟨i,g,rfl,e,l⟩:=qi2 a;exact(q88 w h f.wf.net l).mono λ_ _ ⟨c,d⟩=>⟨_,0,⟨rfl,by rw[if_pos a];exact⟨rfl,rfl⟩⟩,c,d⟩
 exact(qud k w h a).mono λ_ _ ⟨c,d⟩=>⟨W,2,⟨rfl,by rw[if_neg a];exact⟨rfl,rfl⟩⟩,c,vh.same h d⟩
theorem q50 (k:Int) (w:World) (h:PW w b G W):Ca 116 #[PP b,U k] w (qgr 16 W [k] ⟨#[]⟩ w b G):=by
 by_cases a:ye k W.net.length
 ·obtain⟨i,g,rfl,e,f⟩:=qi2 a;exact(q5x w h f).mono λ_ _ ⟨c,d⟩=>⟨_,0,⟨rfl,by rw[if_pos a];exact⟨⟨g,f,rfl⟩,rfl⟩⟩,c,d⟩
 exact(qss k w h a).mono λ_ _ ⟨c,d⟩=>⟨W,2,⟨rfl,by rw[if_neg a];exact⟨rfl,rfl⟩⟩,c,vh.same h d⟩
theorem q39 (k:Int) (w:World) (h:PW w b G W) (f:PlI j W):Ca 115 #[PP b,U k] w (qgr 15 W [k] ⟨#[]⟩ w b G):=by
 by_cases a:ye k W.n
 ·obtain⟨i,rfl,hi,e⟩:=zq a;exact(q5f w h f.wf hi).mono λ_ _ ⟨c,d⟩=>⟨_,0,⟨rfl,by rw[if_pos a];exact⟨rfl,rfl⟩⟩,c,d⟩
 exact(qt6 k w h a).mono λ_ _ ⟨c,d⟩=>⟨W,2,⟨rfl,by rw[if_neg a];exact⟨rfl,rfl⟩⟩,c,vh.same h d⟩
theorem q9o (k y:Int) (w:World) (h:PW w b G W) (g:PlI j W):Ca 106 #[PP b,U k,U y] w (qgr 8 W [k,y] ⟨#[]⟩ w b G):=by
 by_cases f:ye k W.n
 ·obtain⟨i,rfl,hi,e⟩:=zq f;by_cases a:0<=y/\y<=1099511627776
  ·exact(q8u w h hi a.1 a.2 (g.wl i hi).1 (g.wl i hi).2).mono λ_ _ ⟨c,d⟩=>⟨_,0,⟨rfl,by rw[if_pos ⟨f,a⟩];exact⟨rfl,rfl⟩⟩,c,d⟩
  exact(qvi y w h hi a).mono λ_ _ ⟨c,d⟩=>⟨W,2,⟨rfl,by rw[if_neg (λq=>a q.2)];exact⟨rfl,rfl⟩⟩,c,vh.same h d⟩
 exact(qy6 k y w h f).mono λ_ _ ⟨c,d⟩=>⟨W,2,⟨rfl,by rw[if_neg (λq=>f q.1)];exact⟨rfl,rfl⟩⟩,c,vh.same h d⟩
theorem q9j (k y:Int) (w:World) (h:PW w b G W):Ca 112 #[PP b,U k,U y] w (qgr 12 W [k,y] ⟨#[]⟩ w b G):=by
 by_cases f:ye k W.c
 ·obtain⟨i,rfl,hi,e⟩:=zq f;by_cases g:ye y W.n
  ·obtain⟨m,rfl,l,o⟩:=zq g;exact(q8o w h hi l).mono λ_ _ ⟨a,d⟩=>⟨_,_,⟨rfl,by rw[if_pos ⟨f,g⟩];exact⟨rfl,rfl⟩⟩,a,d⟩
  exact(qve y w h hi g).mono λ_ _ ⟨a,d⟩=>⟨W,2,⟨rfl,by rw[if_neg (λq=>g q.2)];exact⟨rfl,rfl⟩⟩,a,vh.same h d⟩
 exact(qyb k y w h f).mono λ_ _ ⟨a,d⟩=>⟨W,2,⟨rfl,by rw[if_neg (λq=>f q.1)];exact⟨rfl,rfl⟩⟩,a,vh.same h d⟩
theorem q9z (k key:Int) (w:World) (h:PW w b G W):Ca 105 #[PP b,U k,.agg #[U key,.string ⟨#[]⟩,.bool true]] w (qgr 7 W [k,key] ⟨#[]⟩ w b G):=by
 by_cases a:ye k W.c
 ·obtain⟨i,rfl,hi,e⟩:=zq a;exact(qv8 key ⟨#[]⟩ true w h hi).mono λ_ _ ⟨d,f⟩=>⟨_,_,⟨rfl,by rw[if_pos a];exact⟨rfl,rfl⟩⟩,d,f⟩
 exact(qm5 k key ⟨#[]⟩ true w h a).mono λ_ _ ⟨d,f⟩=>⟨W,2,⟨rfl,by rw[if_neg a];exact⟨rfl,rfl⟩⟩,d,vh.same h f⟩
theorem q48 (k key:Int) (d:ByteArray) (w:World) (h:PW w b G W):Ca 105 #[PP b,U k,.agg #[U key,.string d,.bool false]] w (qgr 18 W [k,key] d w b G):=by
 by_cases a:ye k W.c
 ·obtain⟨i,rfl,hi,e⟩:=zq a;exact(qv8 key d false w h hi).mono λ_ _ ⟨f,g⟩=>⟨_,_,⟨rfl,by rw[if_pos a];exact⟨rfl,rfl⟩⟩,f,g⟩
 exact(qm5 k key d false w h a).mono λ_ _ ⟨f,g⟩=>⟨W,2,⟨rfl,by rw[if_neg a];exact⟨rfl,rfl⟩⟩,f,vh.same h g⟩
end
end
section
open Go.RowKit Go.Maps
variable {w:World}
theorem qbu {P:Program} {o:Oper} {a:Act} {K:Act->World->Prop} {Q:Exit->Act->World->Prop} (f:FuncId) (args:Array Value) (g:(execOp a.eval o).run P w=.ok (.enter f args) w) {R:Ending->World->Prop} (h:Calls P f args w R)
 (k:∀e w',R e w'->(∃v,e=.returned v/\K (a.put o.dst v) w')\/∃c,e=.panicked c/\Q (.panic c) a w'):Oper.wp P o a w K Q:=by
 unfold Oper.wp;rw[g,Oper.upon_enter];refine h.mono λe w' m=>?_;rcases k e w' m with ⟨v,rfl,d⟩|⟨c,rfl,d⟩
 ·exact d
 exact d
def q3p (i:Nat):Nat:=[46,47,48,49,50,51,52,53,54,55,56,57,58,59,60,61,62,63,64].getD i 0
def doV (cb i:Nat):Value:=.func (.func (q3p i)) #[PP cb] #[]
structure qow (D:DataW Value) (cb n:Nat):Prop where
 size:Maps.size D=n
 has:∀i,i<n->Maps.has D (.string (qn i))=true/\∀z,D.atKey (.string (qn i)) z=.held (doV cb i)
 no:∀s,(∀i,i<n->s≠qn i)->Maps.has D (.string s)=false/\∀z,D.atKey (.string s) z=z
def zm (w:World) (mb cb n:Nat):Prop:=∃D,w.ownsMap Tryz.prog 9 qcd mb n D/\qow D cb n
variable {w':World} {mb cb n:Nat}
theorem zm.kept (h:zm w mb cb n) (e:w'.heap[mb]?=w.heap[mb]?):zm w' mb cb n:=by
 obtain⟨D,⟨c,d,f,r⟩,g⟩:=h;exact⟨D,⟨c,d,by rw[e];exact f,r⟩,g⟩
theorem zm.lt (h:zm w mb cb n):mb<w.heap.size:=by
 obtain⟨D,h,_⟩:=h;exact h.lt
structure qe3 (w:World) (cb mb b:Nat) (Gw:Nat->Prop) (W:WoS):Prop where
 box:w.heap[cb]?=some (.cells #[PP b,.map (some mb)] 57 (0,0))
 map:zm w mb cb 19
 pw:PW w b Gw W
 n1:cb≠mb
 n2:¬Gw cb
 n3:¬Gw mb
def qvq (cb mb:Nat) (W:WoS) (w:World) (G:Nat->Prop):Prop:=∃b Gw,qe3 w cb mb b Gw W/\∀k,G k↔(k=cb\/k=mb\/Gw k)
variable {w1:World}
section
variable {w w':World} {cb mb b:Nat} {Gw G:Nat->Prop} {W W':WoS}
theorem qe3.ltc (h:qe3 w cb mb b Gw W):cb<w.heap.size:=(jcs.1 h.box).1
theorem qe3.kept (h:qe3 w cb mb b Gw W) (c:∀k,(k=cb\/k=mb\/Gw k)->w'.heap[k]?=w.heap[k]?) (d:w.heap.size<=w'.heap.size):qe3 w' cb mb b Gw W:=
 ⟨(c cb (.inl rfl)).trans h.box,h.map.kept (c mb (.inr (.inl rfl))),h.pw.kept (λk e=>c k (.inr (.inr e))) d,h.n1,h.n2,h.n3⟩
theorem qvq.lt (h:qvq cb mb W w G):∀k,G k->k<w.heap.size:=λk c=>by
 obtain⟨b,Gw,h,d⟩:=h;rcases(d k).1 c with rfl|rfl|e
 ·exact h.ltc
 ·exact h.map.lt
 exact h.pw.lt k e
theorem qvq.kept (h:qvq cb mb W w G) (d:∀k,G k->w'.heap[k]?=w.heap[k]?) (f:w.heap.size<=w'.heap.size):qvq cb mb W w' G:=by
 obtain⟨b,Gw,h,c⟩:=h;exact⟨b,Gw,h.kept (λk e=>d k ((c k).2 e)) f,c⟩
def ckP (cb mb:Nat) (W:WoS):qfr:=⟨λw G=>qvq cb mb W w G,λ_ _ h=>h.lt,λ_ _ _ h=>h.kept⟩
theorem qe3.later (h:qe3 w cb mb b Gw W) (c:Bw w w'):qe3 w' cb mb b Gw W:=
 h.kept (λk e=>c.block k (by rcases e with rfl|rfl|e;exact h.ltc;exact h.map.lt;exact h.pw.lt k e)) c.size
theorem qe3.cell0 (h:qe3 w cb mb b Gw W):w.cell? (AD cb 0)=some (PP b):=by rw[Lib.cell_of_heap h.box];rfl
theorem qe3.cell1 (h:qe3 w cb mb b Gw W):w.cell? (AD cb 1)=some (.map (some mb)):=by rw[Lib.cell_of_heap h.box];rfl
theorem qe3.op (h:qe3 w cb mb b Gw W) (d:∀k,G k↔(k=cb\/k=mb\/Gw k)) (g:Bw w w1) (p:vh w1 b Gw W' w'):qbi (ckP cb mb W') w G w':=by
 obtain⟨o,p1,p2,c⟩:=p;have f:=h.later g;have lc:=f.ltc;have r:=f.map.lt;refine⟨λk=>k=cb\/k=mb\/o k,⟨b,o,⟨(c.block cb lc h.n2).trans f.box,f.map.kept (c.block mb r h.n3),p1,h.n1,λe=>?_,λe=>?_⟩,λ_=>jdl⟩,λk m=>?_,?_⟩
 ·rcases p2 cb e with q|q
  ·exact h.n2 q
  omega
 ·rcases p2 mb e with q|q
  ·exact h.n3 q
  omega
 ·rcases m with rfl|rfl|e
  ·exact .inl ((d k).2 (.inl rfl))
  ·exact .inl ((d k).2 (.inr (.inl rfl)))
  rcases p2 k e with q|q
  ·exact .inl ((d k).2 (.inr (.inr q)))
  exact .inr (jcn g.size q)
 exact(qc.ofBelow g).trans ⟨c.os,c.tape,c.output,c.size,λk m s=>c.block k m (λe=>s ((d k).2 (.inr (.inr e))))⟩
theorem qe3.same (h:qe3 w cb mb b Gw W) (d:∀k,G k↔(k=cb\/k=mb\/Gw k)) (c:Bw w w'):qbi (ckP cb mb W) w G w':=
 ⟨G,⟨b,Gw,h.later c,d⟩,λ_ e=>.inl e,qc.ofBelow c⟩
theorem qe3.after (h:qbi (ckP cb mb W') w G w1) (c:Bw w1 w'):qbi (ckP cb mb W') w G w':=by
 obtain⟨d,p1,p2,f⟩:=h;exact⟨d,p1.kept (λk e=>c.block k (p1.lt k e)) c.size,p2,f.trans (qc.ofBelow c)⟩
end
def qlx (er:Int) (told:List UInt8) (e:Ending):Prop:=(er=0/\e=.returned (.string (bya told)))\/(er≠0/\e=qc7 er)
def jm (i:Nat) (W:WoS) (rest:List ByteArray) (w:World) (cb mb:Nat) (G:Nat->Prop) (e:Ending) (w':World):Prop:=
 ∃W' er told,qc2 i W rest W' er told/\qlx er told e/\qbi (ckP cb mb W') w G w'
structure vk (w:World) (cb mb b:Nat) (Gw G:Nat->Prop) (W:WoS) (j:Nat) (a:Option Addr) (cap:Nat) (l:List ByteArray):Prop where
 ck:qe3 w cb mb b Gw W
 g:∀k,G k↔(k=cb\/k=mb\/Gw k)
 gl:Gl w
 gn:∀k,k<10->¬G k
 wi:PlI j W
 di:DkI W
 st:qfj w a cap l
 sm:∀x∈l,x.size<=1000000
variable {i:Nat} {W':WoS} {w2:World} {er:Int}
section
variable {w:World} {cb mb b j cap:Nat} {Gw G:Nat->Prop} {W:WoS} {a:Option Addr} {l:List ByteArray}
theorem vk.no (h:vk w cb mb b Gw G W j a cap l) (hi:i≠18) (c:ju (qqi i) l=none) (d:Bw w w'):jm i W l w cb mb G (qc7 3) w':=
 ⟨W,3,[],by unfold qc2;rw[if_neg hi,c];exact⟨rfl,rfl,rfl⟩,.inr ⟨by decide,rfl⟩,h.ck.same h.g d⟩
theorem vk.gl2 (h:vk w cb mb b Gw G W j a cap l) (c:Bw w w1) (m:vh w1 b Gw W' w2):Gl w2:=by
 obtain⟨o,_,_,d⟩:=m;exact(h.gl.later c).kept (λk f=>d.block k (jci f (h.gl.later c).sz) (λe=>h.gn k f ((h.g k).2 (.inr (.inr e))))) d.size
theorem vk.yes {ns:List Int} {told:List UInt8} {c:World} {e:Ending} (h:vk w cb mb b Gw G W j a cap l) (hi:i≠18) (d:ju (qqi i) l=some ns) (f:Bw w w1) (k:qaa i W ns (l.getD 2 ⟨#[]⟩) W' er told) (m:vh w1 b Gw W' w2) (o:Bw w2 c) (p:qlx er told e):jm i W l w cb mb G e c:=
 ⟨W',er,told,by unfold qc2;rw[if_neg hi,d];exact k,p,qe3.after (h.ck.op h.g f m) o⟩
end
theorem qaa.data {W:WoS} {l:List Int} {d d':ByteArray} {t:List UInt8} (hi:i≠18) (h:qaa i W l d W' er t):qaa i W l d' W' er t:=by
 unfold qaa at h ⊢
 split at h<;>first|exact h|exact absurd rfl hi
end
section
open Tryz Go.RowKit Go.Maps
theorem qhg:Keyed prog 9:=string_keyed underlying9
theorem qps {s:ByteArray} (h:s.size<=maxLen):keyOf prog 9 (.string s)=some (.string s.data.toList):=by
 unfold keyOf;rw[underlying9];simp[mapKey,h,underlying9]
theorem q0a (s:List UInt8):WideAt.IsKeyLit (.string s):=trivial
theorem qo8:∀i<19,∀j<19,qn i=qn j->i=j:=by decide
variable {cb n:Nat}
theorem qow.put {D:DataW Value} (c:Tidy D) (h:qow D cb n) (f:n<19):qow (D.put (.string (qn n)) (.held (doV cb n))) cb (n+1):=by
 have j:=h.no (qn n) (λi hi e=>by have:=qo8 n f i (by omega) e;omega);refine⟨?_,λi hi=>?_,λs g=>?_⟩
 ·rw[size_put c,j.1,h.size];simp
 ·by_cases e:i=n
  ·subst e;exact⟨has_put_same c.isMap (q0a _) _,λz=>atKey_put_same c.isMap (q0a _) _ z⟩
  have a:(Lit.string (qn i))≠.string (qn n):=λd=>e (qo8 i (by omega) n f (by injection d));have b:=h.has i (by omega);exact⟨by rw[has_put_other a];exact b.1,λz=>by rw[atKey_put_other a];exact b.2 z⟩
 have a:(Lit.string s)≠.string (qn n):=λd=>g n (by omega) (by injection d);have b:=h.no s (λi hi=>g i (by omega));exact⟨by rw[has_put_other a];exact b.1,λz=>by rw[atKey_put_other a];exact b.2 z⟩
theorem zm.made (w:World) (cb:Nat):zm (w.alloc (.map #[] 0)) w.heap.size cb 0:=
 ⟨_,World.ownsMap_made w _ _ _,⟨rfl,λi hi=>absurd hi (by omega),λ_ _=>⟨rfl,λ_=>rfl⟩⟩⟩
variable {w:World} {mb:Nat}
theorem zm.put (n:Nat) (s:ByteArray) (h:zm w mb cb n) (b:n<19) (c:s.data.toList=qn n) (e:s.size<=maxLen):∃w',(Instr.mapUpdate 55 (.map (some mb)) (.string s) (doV cb n)).run prog w=.ok () w'/\Hid (zm w' mb cb (n+1)/\w.grownBy w' (some mb)):=by
 obtain⟨D,o,d⟩:=h;obtain⟨w',f,a,t⟩:=o.store qhg underlying55 (by simp only[maxLen];omega) (qps e) (val:=doV cb n) (d:=.held (doV cb n)) (ps:=[]) rfl;rw[c]at a;exact⟨w',f,⟨_,a,d.put (o.tidy qhg) b⟩,t.grown⟩
theorem jo {b w2:World} (a:Below n w b) (d:n<=mb) (g:b.grownBy w2 (some mb)) (f:n<=b.heap.size):Below n w w2:=
 ⟨g.os.trans a.os,g.tape.trans a.tape,g.output.trans a.output,jcn a.size g.size,λk c=>(g.block k (by omega) (λe=>by injection e with e;omega)).trans (a.block k c)⟩
theorem q02 (cb:Nat) (w:World):Ca 19 #[PP cb] w λe w'=>e=.returned (.map (some w.heap.size))/\zm w' w.heap.size cb 19/\Bw w w':=by
 have a:=hd2 (zm.made w cb) (show Bw w (w.alloc (.map #[] 0))from boxed (jcc _ w) _);obtain⟨b,P,H⟩:=zm.put 0 ⟨#[97,98,111,114,116]⟩ a.out.1 (by omega) (by rfl) (by decide);have c:=hd2 (show zm b w.heap.size cb 1 from H.out.1) (jo a.out.2 (jcd _) H.out.2 a.out.2.size);replace P:(Instr.mapUpdate 55 (.map (some w.heap.size)) (.string ⟨#[97,98,111,114,116]⟩) (.func (.func 46) #[PP cb] #[])).run prog (w.alloc (.map #[] 0))=.ok () b:=P;obtain⟨w2,Q,H⟩:=zm.put 1 ⟨#[97,115,107]⟩ c.out.1 (by omega) (by rfl) (by decide);have d:=hd2 (show zm w2 w.heap.size cb 2 from H.out.1) (jo c.out.2 (jcd _) H.out.2 c.out.2.size);replace Q:(Instr.mapUpdate 55 (.map (some w.heap.size)) (.string ⟨#[97,115,107]⟩) (.func (.func 47) #[PP cb] #[])).run prog b=.ok () w2:=Q;obtain⟨f,R,H⟩:=zm.put 2 ⟨#[98,101,103,105,110]⟩ d.out.1 (by omega) (by rfl) (by decide);have g:=hd2 (show zm f w.heap.size cb 3 from H.out.1) (jo d.out.2 (jcd _) H.out.2 d.out.2.size);replace R:(Instr.mapUpdate 55 (.map (some w.heap.size)) (.string ⟨#[98,101,103,105,110]⟩) (.func (.func 48) #[PP cb] #[])).run prog w2=.ok () f:=R;obtain⟨h,S,H⟩:=zm.put 3 ⟨#[99,97,108,109]⟩ g.out.1 (by omega) (by rfl) (by decide);have i:=hd2 (show zm h w.heap.size cb 4 from H.out.1) (jo g.out.2 (jcd _) H.out.2 g.out.2.size);replace S:(Instr.mapUpdate 55 (.map (some w.heap.size)) (.string ⟨#[99,97,108,109]⟩) (.func (.func 49) #[PP cb] #[])).run prog f=.ok () h:=S;obtain⟨j,T,H⟩:=zm.put 4 ⟨#[99,108,105,101,110,116]⟩ i.out.1 (by omega) (by rfl) (by decide);have k:=hd2 (show zm j w.heap.size cb 5 from H.out.1) (jo i.out.2 (jcd _) H.out.2 i.out.2.size);replace T:(Instr.mapUpdate 55 (.map (some w.heap.size)) (.string ⟨#[99,108,105,101,110,116]⟩) (.func (.func 50) #[PP cb] #[])).run prog h=.ok () j:=T;obtain⟨l,V,H⟩:=zm.put 5 ⟨#[99,111,109,109,105,116]⟩ k.out.1 (by omega) (by rfl) (by decide);have m:=hd2 (show zm l w.heap.size cb 6 from H.out.1) (jo k.out.2 (jcd _) H.out.2 k.out.2.size);replace V:(Instr.mapUpdate 55 (.map (some w.heap.size)) (.string ⟨#[99,111,109,109,105,116]⟩) (.func (.func 51) #[PP cb] #[])).run prog j=.ok () l:=V
 obtain⟨o,W,H⟩:=zm.put 6 ⟨#[100,101,108,105,118,101,114]⟩ m.out.1 (by omega) (by rfl) (by decide);have p:=hd2 (show zm o w.heap.size cb 7 from H.out.1) (jo m.out.2 (jcd _) H.out.2 m.out.2.size);replace W:(Instr.mapUpdate 55 (.map (some w.heap.size)) (.string ⟨#[100,101,108,105,118,101,114]⟩) (.func (.func 52) #[PP cb] #[])).run prog l=.ok () o:=W;obtain⟨q,X,H⟩:=zm.put 7 ⟨#[100,114,111,112]⟩ p.out.1 (by omega) (by rfl) (by decide);have r:=hd2 (show zm q w.heap.size cb 8 from H.out.1) (jo p.out.2 (jcd _) H.out.2 p.out.2.size);replace X:(Instr.mapUpdate 55 (.map (some w.heap.size)) (.string ⟨#[100,114,111,112]⟩) (.func (.func 53) #[PP cb] #[])).run prog o=.ok () q:=X;obtain⟨s,Y,H⟩:=zm.put 8 ⟨#[103,111,101,115]⟩ r.out.1 (by omega) (by rfl) (by decide);have t:=hd2 (show zm s w.heap.size cb 9 from H.out.1) (jo r.out.2 (jcd _) H.out.2 r.out.2.size);replace Y:(Instr.mapUpdate 55 (.map (some w.heap.size)) (.string ⟨#[103,111,101,115]⟩) (.func (.func 54) #[PP cb] #[])).run prog q=.ok () s:=Y;obtain⟨u,Z,H⟩:=zm.put 9 ⟨#[104,101,108,112]⟩ t.out.1 (by omega) (by rfl) (by decide);have v:=hd2 (show zm u w.heap.size cb 10 from H.out.1) (jo t.out.2 (jcd _) H.out.2 t.out.2.size);replace Z:(Instr.mapUpdate 55 (.map (some w.heap.size)) (.string ⟨#[104,101,108,112]⟩) (.func (.func 55) #[PP cb] #[])).run prog s=.ok () u:=Z;obtain⟨x,aa,H⟩:=zm.put 10 ⟨#[108,111,115,101]⟩ v.out.1 (by omega) (by rfl) (by decide);have y:=hd2 (show zm x w.heap.size cb 11 from H.out.1) (jo v.out.2 (jcd _) H.out.2 v.out.2.size);replace aa:(Instr.mapUpdate 55 (.map (some w.heap.size)) (.string ⟨#[108,111,115,101]⟩) (.func (.func 56) #[PP cb] #[])).run prog u=.ok () x:=aa;obtain⟨z,ab,H⟩:=zm.put 11 ⟨#[109,97,110,121]⟩ y.out.1 (by omega) (by rfl) (by decide);have B:=hd2 (show zm z w.heap.size cb 12 from H.out.1) (jo y.out.2 (jcd _) H.out.2 y.out.2.size);replace ab:(Instr.mapUpdate 55 (.map (some w.heap.size)) (.string ⟨#[109,97,110,121]⟩) (.func (.func 57) #[PP cb] #[])).run prog x=.ok () z:=ab
 obtain⟨C,ac,H⟩:=zm.put 12 ⟨#[109,111,118,101]⟩ B.out.1 (by omega) (by rfl) (by decide);have D:=hd2 (show zm C w.heap.size cb 13 from H.out.1) (jo B.out.2 (jcd _) H.out.2 B.out.2.size);replace ac:(Instr.mapUpdate 55 (.map (some w.heap.size)) (.string ⟨#[109,111,118,101]⟩) (.func (.func 58) #[PP cb] #[])).run prog z=.ok () C:=ac;obtain⟨E,ad,H⟩:=zm.put 13 ⟨#[114,101,97,100]⟩ D.out.1 (by omega) (by rfl) (by decide);have F:=hd2 (show zm E w.heap.size cb 14 from H.out.1) (jo D.out.2 (jcd _) H.out.2 D.out.2.size);replace ad:(Instr.mapUpdate 55 (.map (some w.heap.size)) (.string ⟨#[114,101,97,100]⟩) (.func (.func 59) #[PP cb] #[])).run prog C=.ok () E:=ad;obtain⟨G,ae,H⟩:=zm.put 14 ⟨#[115,105,116,101]⟩ F.out.1 (by omega) (by rfl) (by decide);have I:=hd2 (show zm G w.heap.size cb 15 from H.out.1) (jo F.out.2 (jcd _) H.out.2 F.out.2.size);replace ae:(Instr.mapUpdate 55 (.map (some w.heap.size)) (.string ⟨#[115,105,116,101]⟩) (.func (.func 60) #[PP cb] #[])).run prog E=.ok () G:=ae;obtain⟨J,af,H⟩:=zm.put 15 ⟨#[115,119,101,101,112]⟩ I.out.1 (by omega) (by rfl) (by decide);have K:=hd2 (show zm J w.heap.size cb 16 from H.out.1) (jo I.out.2 (jcd _) H.out.2 I.out.2.size);replace af:(Instr.mapUpdate 55 (.map (some w.heap.size)) (.string ⟨#[115,119,101,101,112]⟩) (.func (.func 61) #[PP cb] #[])).run prog G=.ok () J:=af;obtain⟨L,ag,H⟩:=zm.put 16 ⟨#[116,119,105,99,101]⟩ K.out.1 (by omega) (by rfl) (by decide);have M:=hd2 (show zm L w.heap.size cb 17 from H.out.1) (jo K.out.2 (jcd _) H.out.2 K.out.2.size);replace ag:(Instr.mapUpdate 55 (.map (some w.heap.size)) (.string ⟨#[116,119,105,99,101]⟩) (.func (.func 62) #[PP cb] #[])).run prog J=.ok () L:=ag;obtain⟨N,ah,H⟩:=zm.put 17 ⟨#[119,111,114,108,100]⟩ M.out.1 (by omega) (by rfl) (by decide);have O:=hd2 (show zm N w.heap.size cb 18 from H.out.1) (jo M.out.2 (jcd _) H.out.2 M.out.2.size);replace ah:(Instr.mapUpdate 55 (.map (some w.heap.size)) (.string ⟨#[119,111,114,108,100]⟩) (.func (.func 63) #[PP cb] #[])).run prog L=.ok () N:=ah
 obtain⟨ai,aj,H⟩:=zm.put 18 ⟨#[119,114,105,116,101]⟩ O.out.1 (by omega) (by rfl) (by decide);have ak:=hd2 (show zm ai w.heap.size cb 19 from H.out.1) (jo O.out.2 (jcd _) H.out.2 O.out.2.size);replace aj:(Instr.mapUpdate 55 (.map (some w.heap.size)) (.string ⟨#[119,114,105,116,101]⟩) (.func (.func 64) #[PP cb] #[])).run prog N=.ok () ai:=aj;have al:=@run_makeMap prog;go_enter func19,ntmps19
 go_wp2
 go_ret;exact⟨rfl,ak.out.1,ak.out.2⟩
end
section
open Go.RowKit Go.Maps
def qb8:List (List UInt8):=[[99],[115,115],[99],[],[99],[99],[105],[99,110],[115,110],[],[105],[],[99,115],[99,110],[115],[115],[105],[110,110],[99,110,119]]
def qx (i:Nat):List UInt8:=qb8.getD i []
def qe2:DataW Unit:=.map ((qc9.zip qb8).map λx=>(.string x.1,.lit (.string x.2)))
def qsf (w:World) (bm:Nat):Prop:=w.ownsMap Tryz.prog 9 (plainElem Tryz.prog 9) bm 19 qe2
variable {w:World} {bm:Nat}
theorem qsf.kept {w':World} (h:qsf w bm) (e:w'.heap[bm]?=w.heap[bm]?):qsf w' bm:=by
 obtain⟨a,b,c,r⟩:=h;exact⟨a,b,by rw[e];exact c,r⟩
theorem qwp (w:World):(zeroValue 9).run Tryz.prog w=.ok (.string ⟨#[]⟩) w:=by kernel_rfl
theorem qun:∀i,i<19->qe2.atKey (.string (qn i)) .nil=.lit (.string (qx i))
 |0,_=>rfl|1,_=>rfl|2,_=>rfl|3,_=>rfl|4,_=>rfl|5,_=>rfl|6,_=>rfl|7,_=>rfl|8,_=>rfl|9,_=>rfl
 |10,_=>rfl|11,_=>rfl|12,_=>rfl|13,_=>rfl|14,_=>rfl|15,_=>rfl|16,_=>rfl|17,_=>rfl|18,_=>rfl
 |n+19,h=>absurd h (by omega)
theorem q67 {s:List UInt8} (h:∀i,i<19->s≠qn i):qe2.atKey (.string s) .nil=.nil:=by
 have q:((qc9.zip qb8).map λx=>((.string x.1,.lit (.string x.2)):Lit×DataW Unit)).find? (λp=>p.1.sameKey (.string s))=none:=by
  rw[List.find?_eq_none];intro x a;obtain⟨y,b,rfl⟩:=jcz.1 a;obtain⟨i,hi,e⟩:=jdm.1 (List.of_mem_zip b).1;have:=h i hi
  have c:qn i=y.1:=by unfold qn;rw[jdp,jcg hi];exact e
  rw[c]at this;simp[Lit.sameKey,Ne.symm this]
 unfold qe2 DataW.atKey
 dsimp only
 rw[q]
theorem qon {v:Value} {y:DataW Unit×List MemPlace} (h:plainElem Tryz.prog 9 v=some y):∃s:ByteArray,v=.string s/\y.1=.lit (.string s.data.toList):=by
 unfold plainElem at h;rw[Tryz.underlying9]at h
 cases v<;>simp at h
 rename_i s;exact⟨s,rfl,by rw[<-h.2]⟩
variable {s:ByteArray}
theorem qsf.held (h:qsf w bm) {i:Nat} (d:s.size<=maxLen) (hi:i<19) (b:s.data.toList=qn i):(Instr.lookup 92 (.map (some bm)) (.string s) true).run Tryz.prog w=.ok (.tuple #[.string (bya (qx i)),.bool true]) w:=by
 obtain⟨l,m,f,F,_,e⟩:=h;have key:=qps d;rcases Maps.fit_look true qhg Tryz.underlying92 (qwp w) f F key with ⟨c,_,a⟩|⟨n,y,_,_,c,g,a,_⟩
 ·have:=a .nil;rw[<-e,b,qun i hi]at this;cases this
 have:=a .nil;rw[<-e,b,qun i hi]at this;obtain⟨z,j,k⟩:=qon g;rw[k]at this;injection this with this;injection this with this;rw[c,j,if_pos rfl,this]
theorem qsf.lacks (h:qsf w bm) (c:s.size<=maxLen) (d:∀i,i<19->s.data.toList≠qn i):(Instr.lookup 92 (.map (some bm)) (.string s) true).run Tryz.prog w=.ok (.tuple #[.string ⟨#[]⟩,.bool false]) w:=by
 obtain⟨k,l,f,F,_,e⟩:=h;have key:=qps c;rcases Maps.fit_look true qhg Tryz.underlying92 (qwp w) f F key with ⟨a,_,b⟩|⟨m,y,_,_,a,g,b,_⟩
 ·exact a
 have:=b .nil;rw[<-e,q67 d]at this;obtain⟨z,n,j⟩:=qon g;rw[j]at this;cases this
end
section
def qaq:List UInt8->List ByteArray->Option (List Int)
 |[],[]=>some []
 |c::f,s::l=>if c=119 then qaq f l else match qbw s with
  |none=>none
  |some v=>match qaq f l with
   |none=>none
   |some r=>some (v::r)
 |_,_=>none
theorem qm4:∀{f1:List UInt8} {l1:List ByteArray} (d:List UInt8) (g:List ByteArray),f1.length=l1.length->qaq (f1++d) (l1++g)=match qaq f1 l1 with
 |none=>none
 |some a=>match qaq d g with
  |none=>none
  |some b=>some (a++b)
 |[],[],d,g,_=>by
  simp only[jda,qaq]
  cases qaq d g<;>rfl
 |[],_::_,_,_,h=>by simp at h
 |_::_,[],_,_,h=>by simp at h
 |c::f,s::l,d,g,h=>by
  have j:=qm4 (f1:=f) (l1:=l) d g (by simpa using h);simp only[jdj,qaq];by_cases e:c=119
  ·rw[if_pos e,if_pos e,j]
  rw[if_neg e,if_neg e];cases qbw s with
  |none=>rfl
  |some v=>
   simp only;rw[j];cases qaq f l with
   |none=>rfl
   |some a=>
    simp only
    cases qaq d g<;>rfl
variable {l:List ByteArray} {ns:List Int}
theorem qd0:∀{f:List UInt8},qaq f l=some ns->qhk f=ns.length
 |[],[],ns,h=>by simp only[qaq]at h;injection h with h;subst h;rfl
 |[],_::_,ns,h=>by simp[qaq]at h
 |_::_,[],ns,h=>by simp[qaq]at h
 |c::f,s::l,ns,h=>by
  simp only[qaq]at h;by_cases e:c=119
  ·rw[if_pos e]at h;rw[q54 e];exact qd0 h
  rw[if_neg e]at h;rw[qxs e];cases hv:qbw s with
  |none=>rw[hv]at h;cases h
  |some v=>
   rw[hv]at h;simp only at h;cases hr:qaq f l with
   |none=>rw[hr]at h;cases h
   |some r=>
    rw[hr]at h;injection h with h;subst h;rw[qd0 hr];rfl
variable {f:List UInt8} {k:Nat}
theorem qxn {a:List Int} (b:f.length=l.length) (c:k<l.length) (h:qaq (f.take k) (l.take k)=some a):
 qaq (f.take (k+1)) (l.take (k+1))=if f[k]'(by omega)=119 then some a else match qbw l[k]with
  |none=>none
  |some v=>some (a++[v]):=by
 have d:f.take (k+1)=f.take k++[f[k]'(by omega)]:=by rw[jc1 (by omega)]
 have g:l.take (k+1)=l.take k++[l[k]]:=by rw[jc1 c]
 rw[d,g,qm4 _ _ (by rw[jc5,jc5,b]),h];simp only[qaq];by_cases e:f[k]'(by omega)=119
 ·rw[if_pos e,if_pos e];simp
 rw[if_neg e,if_neg e]
 cases qbw l[k]<;>rfl
theorem q19 (a:f.length=l.length) (h:qaq (f.take k) (l.take k)=none):qaq f l=none:=by
 have:=qm4 (f1:=f.take k) (l1:=l.take k) (f.drop k) (l.drop k) (by rw[jc5,jc5,a]);rw[jds,jds,h]at this;exact this
theorem qzg {p:Nat->Prop} (a:p 0) (b:p 1) (c:p 2) (d:p 3) (e:p 4) (g:p 5) (j:p 6) (m:p 7) (o:p 8) (q:p 9) (r:p 10) (s:p 11) (t:p 12) (u:p 13) (v:p 14) (w:p 15) (x:p 16) (y:p 17) (z:p 18):∀i,i<19->p i
 |0,_=>a|1,_=>b|2,_=>c|3,_=>d|4,_=>e|5,_=>g|6,_=>j|7,_=>m|8,_=>o|9,_=>q
 |10,_=>r|11,_=>s|12,_=>t|13,_=>u|14,_=>v|15,_=>w|16,_=>x|17,_=>y|18,_=>z
 |n+19,h=>absurd h (by omega)
def qeb (i:Nat) (rest:List ByteArray):Option (List Int):=if i=18 then (if rest.length=3 then ju 2 (rest.take 2)else none)else ju (qqi i) rest
theorem q0d:∀i,i<19->∀rest,qeb i rest=if rest.length=(qx i).length then qaq (qx i) rest else none:=by
 refine qzg ?_ ?_ ?_ ?_ ?_ ?_ ?_ ?_ ?_ ?_ ?_ ?_ ?_ ?_ ?_ ?_ ?_ ?_ ?_
 all_goals
  intro rest;rcases rest with _|⟨x,_|⟨y,_|⟨z,_|⟨u,r⟩⟩⟩⟩
  all_goals first
   |rfl
   |(simp[qeb,ju,qqi,qx,qb8,qaq,qb0];done)
variable {i:Nat} {W:WoS}
theorem qc2.no {rest:List ByteArray} (h:qeb i rest=none):qc2 i W rest W 3 []:=by
 unfold qc2;unfold qeb at h;rw[h];exact⟨rfl,rfl,rfl⟩
theorem qc2.yes {W':WoS} {rest:List ByteArray} {er:Int} {t:List UInt8} (h:qeb i rest=some ns) (a:qaa i W ns (rest.getD 2 ⟨#[]⟩) W' er t):qc2 i W rest W' er t:=by
 unfold qc2;unfold qeb at h;rw[h];exact a
theorem q1x {d:ByteArray}:∀i,i<19->∀ns,qhk (qx i)=ns.length->thB W (qx i) ns=false->∃t,qaa i W ns d W 2 t:=by
 have a:∀(n:Int) (c:Nat),inB n 0 ((c:Int)-1)=false->¬ye n c:=λn c h q=>by
  have:=q.1;have:=q.2;simp[inB]at h;omega
 have b:∀(n:Int) (c:Nat),ye n c->inB n 0 ((c:Int)-1)=true:=λn c q=>by
  have:=q.1;have:=q.2;simp[inB];omega
 refine qzg ?_ ?_ ?_ ?_ ?_ ?_ ?_ ?_ ?_ ?_ ?_ ?_ ?_ ?_ ?_ ?_ ?_ ?_ ?_
 all_goals
  intro ns g h;rcases ns with _|⟨x,_|⟨y,_|⟨z,r⟩⟩⟩
  all_goals first
   |(simp[qx,qb8,qhk]at g;done)
   |(simp[qx,qb8,thB,thC]at h;done)
   |skip
 all_goals
  simp[qx,qb8,thB,thC]at h
  first
   |exact⟨qn _,rfl,by rw[if_neg (λe=>by first|exact a _ _ h e|exact a _ _ h e.1|exact a _ _ (h (b _ _ e.1)) e.2.1|exact a _ _ (h (b _ _ e.1)) e.2)];exact⟨rfl,rfl⟩⟩
   |exact⟨[],rfl,by rw[if_neg (λe=>by first|exact a _ _ h e|exact a _ _ h e.1|exact a _ _ (h (b _ _ e.1)) e.2.1|exact a _ _ (h (b _ _ e.1)) e.2)];exact⟨rfl,rfl⟩⟩
   |exact⟨[],by show (if ye x W.c then ([]:List UInt8)=qgx W x.toNat/\W=wcW W x.toNat/\(2:Int)=wcE W x.toNat else ([]:List UInt8)=[]/\W=W/\(2:Int)=2);rw[if_neg (λe=>by first|exact a _ _ h e|exact a _ _ h e.1|exact a _ _ (h (b _ _ e.1)) e.2.1|exact a _ _ (h (b _ _ e.1)) e.2)];exact⟨rfl,rfl,rfl⟩⟩
end
section
open Go.RowKit
structure qgm (w:World) (n0 hb b:Nat) (Gw G:Nat->Prop) (W:WoS) (j:Nat) (a:Option Addr) (cap:Nat) (l:List ByteArray):Prop where
 hs:qhp w hb b Gw W
 g:∀k,G k↔(k=hb\/Gw k)
 gl:Gl w
 fm:∃bm,w.cell? (AD 0 0)=some (.map (some bm))/\qsf w bm/\bm<n0
 nn:10<=n0/\n0<=w.heap.size
 gn:∀k,k<n0->¬G k
 wi:PlI j W
 di:DkI W
 st:qfj w a cap l
 sm:∀x∈l,x.size<=1000000
 sn:∀bk o,a=some (AD bk o)->¬G bk
 jl:j<=1000000
def RDo (i:Nat) (W:WoS) (l:List ByteArray) (er:Int) (told:List UInt8) (w:World) (hb:Nat) (G:Nat->Prop) (w':World):Prop:=∃W' t,qc2 i W l W' er t/\(er=0->told=t)/\qbi (hsP hb W') w G w'
def vl (i:Nat) (W:WoS) (l:List ByteArray) (w:World) (hb:Nat) (G:Nat->Prop) (e:Ending) (w':World):Prop:=
 ∃told er,e=.returned (.tuple #[.string (bya told),U er])/\RDo i W l er told w hb G w'
theorem qzb:∀i,i<19->(qx i).length<=3:=qzg (by decide) (by decide) (by decide) (by decide) (by decide) (by decide) (by decide) (by decide) (by decide) (by decide) (by decide) (by decide) (by decide) (by decide) (by decide) (by decide) (by decide) (by decide) (by decide)
theorem qy4:∀i,i<19->(bya (qn i)).size<=maxLen:=qzg (by decide) (by decide) (by decide) (by decide) (by decide) (by decide) (by decide) (by decide) (by decide) (by decide) (by decide) (by decide) (by decide) (by decide) (by decide) (by decide) (by decide) (by decide) (by decide)
theorem qyi:∀i,i<19->∀c∈qx i,c.toNat<128:=qzg (by decide) (by decide) (by decide) (by decide) (by decide) (by decide) (by decide) (by decide) (by decide) (by decide) (by decide) (by decide) (by decide) (by decide) (by decide) (by decide) (by decide) (by decide) (by decide)
variable {w:World} {ns:List Int}
theorem q97 {B:Nat} {v:Value} (h:w.ownsRow B 3 1 v ns.length (qec ns)):∃a cap,v=.slice a ns.length cap/\ns.length<=cap/\∀(j:Nat) x,ns[j]?=some x->∃g,a=some (AD g 0)/\B<=g/\g<w.heap.size/\w.cell? (AD g j)=some (U x):=by
 by_cases e:ns=[]
 ·subst e;rcases h.2 with ⟨c,_⟩|⟨g,cap,cur,c,_⟩
  ·exact⟨none,0,c,jcd _,λj x d=>by simp at d⟩
  exact⟨_,cap,c,jcw _,λj x d=>by simp at d⟩
 have k:0<ns.length:=List.length_pos_iff.2 e;obtain⟨f,m,rfl,n,o⟩:=h.form k;have p:=h.cells (g:=f) rfl;refine⟨_,m,rfl,?_,λj x d=>⟨f,rfl,n,o,?_⟩⟩
 ·rcases h.2 with ⟨h,_⟩|⟨g',s,cur,c,_,_,q,_⟩
  ·cases h
  cases c;exact q
 have:=p j (U x) (by unfold qec;rw[jcv,d];rfl);rcases Nat.eq_zero_or_pos j with rfl|r
 ·simpa[Addr.add]using this
 simpa[Addr.add,Nat.ne_of_gt r]using this
def qa3 (i hb:Nat) (a:Option Addr) (m cap:Nat) (na:Option Addr) (nn nc b:Nat) (u:Nat->Value):Array Value:=
 List.toArray (.pointer (PT hb)::.string (bya (qn i))::.slice a m cap::u 3::u 4::u 5::u 6::u 7::u 8::u 9::.slice na nn nc::u 11::u 12::u 13::u 14::PP b::u 16::u 17::u 18::u 19::u 20::u 21::u 22::u 23::u 24::u 25::u 26::u 27::u 28::u 29::u 30::u 31::u 32::u 33::u 34::u 35::u 36::u 37::u 38::u 39::u 40::u 41::u 42::u 43::u 44::u 45::u 46::u 47::u 48::u 49::u 50::u 51::u 52::u 53::u 54::u 55::u 56::u 57::u 58::u 59::u 60::u 61::u 62::u 63::u 64::u 65::u 66::u 67::u 68::u 69::u 70::u 71::u 72::u 73::u 74::u 75::u 76::u 77::u 78::u 79::u 80::u 81::u 82::u 83::u 84::u 85::u 86::undef::undef::undef::undef::undef::undef::undef::undef::undef::undef::undef::undef::undef::undef::undef::undef::undef::undef::undef::undef::undef::undef::undef::undef::undef::undef::undef::undef::undef::undef::undef::undef::undef::undef::undef::undef::undef::undef::undef::undef::undef::undef::undef::undef::undef::undef::undef::undef::undef::undef::undef::undef::undef::undef::undef::undef::undef::undef::undef::undef::undef::undef::undef::undef::undef::undef::undef::undef::undef::undef::undef::undef::undef::undef::undef::undef::undef::undef::undef::undef::undef::undef::undef::undef::undef::undef::undef::undef::undef::undef::undef::undef::undef::undef::undef::undef::undef::undef::undef::undef::undef::undef::undef::undef::undef::undef::undef::undef::undef::undef::undef::undef::undef::undef::undef::undef::undef::undef::undef::undef::undef::undef::undef::undef::undef::undef::undef::undef::undef::undef::undef::undef::undef::undef::undef::undef::undef::undef::undef::undef::undef::undef::undef::undef::undef::undef::undef::undef::undef::undef::undef::undef::undef::undef::undef::undef::undef::undef::undef::undef::undef::undef::undef::undef::undef::undef::undef::undef::undef::undef::undef::undef::undef::undef::undef::undef::undef::undef::undef::undef::undef::undef::undef::undef::undef::undef::undef::undef::undef::undef::undef::undef::undef::undef::undef::undef::undef::undef::undef::undef::undef::undef::undef::undef::undef::undef::undef::undef::undef::undef::undef::undef::undef::undef::undef::undef::undef::undef::undef::undef::undef::undef::undef::undef::undef::undef::undef::undef::undef::undef::undef::undef::undef::undef::undef::undef::undef::undef::undef::undef::undef::undef::undef::undef::undef::undef::undef::undef::undef::undef::undef::undef::undef::undef::undef::undef::undef::undef::undef::undef::undef::undef::undef::undef::undef::undef::undef::undef::undef::undef::undef::undef::undef::undef::undef::undef::undef::undef::undef::undef::undef::undef::undef::undef::undef::undef::undef::undef::undef::undef::undef::undef::undef::undef::undef::undef::undef::undef::undef::undef::undef::undef::undef::undef::undef::undef::undef::undef::undef::undef::undef::undef::undef::undef::undef::undef::undef::undef::undef::undef::undef::undef::undef::undef::undef::undef::undef::undef::undef::undef::undef::undef::undef::undef::undef::undef::undef::undef::undef::undef::undef::undef::undef::undef::undef::undef::undef::undef::undef::undef::undef::undef::undef::undef::undef::undef::undef::undef::undef::undef::undef::undef::undef::undef::undef::undef::undef::undef::undef::undef::undef::undef::undef::undef::undef::undef::undef::undef::undef::undef::undef::undef::[])
noncomputable def q53:Code:=(qfe 17 (Tryz.f16.body.getD .skip)).getD .skip
def yt (i:Nat):Prop:=∀{w w2:World} {n0 hb b j cap nc:Nat} {Gw G:Nat->Prop} {W:WoS} {a na:Option Addr} {l:List ByteArray} {ns:List Int} (u:Nat->Value),qgm w n0 hb b Gw G W j a cap l->qeb i l=some ns->qhk (qx i)=ns.length->thB W (qx i) ns=true->(i=1->∀x y,ns=[x,y]->x≠y)->qx9 w2 w.heap.size na nc ns->Bw w w2->
 Code.wp Tryz.prog q53 (bodyPost Tryz.prog Tryz.f16 (vl i W l w hb G)) ⟨qa3 i hb a l.length cap na ns.length nc b u,[]⟩ w2
theorem q9b:∀i,i<19->i≠1->(qn i==[97,115,107])=false:=qzg (by decide) (by decide) (by decide) (by decide) (by decide) (by decide) (by decide) (by decide) (by decide) (by decide) (by decide) (by decide) (by decide) (by decide) (by decide) (by decide) (by decide) (by decide) (by decide)
variable {l:List ByteArray}
theorem q3b {n0 hb b j i cap:Nat} {Gw G:Nat->Prop} {W:WoS} {a:Option Addr} (hi:i<19) (ARM:yt i) (h:qgm w n0 hb b Gw G W j a cap l):
 Ca 16 #[PP hb,.string (bya (qn i)),.slice a l.length cap] w (vl i W l w hb G):=by
 obtain⟨bm,cf,fm,_⟩:=h.fm;have LK:=fm.held (s:=bya (qn i)) (qy4 i hi) hi rfl;have ad:Hid (yt i):=@ARM;have o:Hid (qgm w n0 hb b Gw G W j a cap l):=h;by_cases S:l.length=(qx i).length
 ·obtain⟨i0,hinf,hz0,hz1,hz2⟩:=info_parts q0l;have hf3:(qx i).length<=3:=qzb i hi
  have hdo:qeb i l=qaq (qx i) l:=by rw[q0d i hi,if_pos S]
  have E:Hid (i<19/\qeb i l=qaq (qx i) l):=⟨hi,hdo⟩
  have hl1:((qx i).length:Int)=l.length:=by omega
  have I:Hid (l.length=(qx i).length):=S;go_enter Tryz.func16,Tryz.ntmps16
  go_wp2
  go_loopw [10,44] (λnv iv wr=>∃(k:Nat) (z:Int) (ns:List Int),k<=l.length/\z=k/\iv=U z/\Hid (qaq ((qx i).take k) (l.take k)=some ns/\wr.ownsRow w.heap.size 3 1 nv ns.length (qec ns)/\Bw w wr)) (λ_ iv _=>l.length-(intOf iv).toNat)
  case atStart=>exact⟨0,0,[],jcw _,rfl,rfl,by simp[qaq],jcx w _ _ _,jcc _ _⟩
  obtain⟨k,z,ns,hk,hz,rfl,C⟩:=hrel;have HZ:Hid (z=k):=hz;by_cases J:k<l.length
  ·have g1:z<(l.length:Int):=by omega
   have g2:0<=z:=by omega
   have g3:z.toNat=k:=by omega
   have g4:z<3:=by have:=I.out;omega
   obtain⟨x,T⟩:∃x,l[k]=x:=⟨_,rfl⟩
   have hxm:x∈l:=by rw[<-T];exact jdr J
   obtain⟨ab,ao,rfl,hab,cx⟩:=o.out.st.cell k x (by rw[jcg J,T]);have cx2:wr.cell? (AD ab (ao+k))=some (.string x):=(C.out.2.2.cell (p:=AD ab (ao+k)) hab).trans cx;have hcap:=o.out.st.cap
   have hkf:k<(qx i).length:=by have:=I.out;omega
   have hkb:k<(bya (qx i)).size:=by rw[Lib.size_eq];exact hkf
   have hcf:(bya (qx i))[k]'hkb=(qx i)[k]'hkf:=rfl;have K:=qxn I.out.symm J C.out.1;rw[T]at K;by_cases N:(qx i)[k]'hkf=119
   ·have hq:((((bya (qx i))[k]'hkb).toNat:Int)==119)=true:=by rw[hcf,N];rfl
    rw[if_pos N]at K;have F:Hid (qaq ((qx i).take (k+1)) (l.take (k+1))=some ns):=K
    go_wp2
    go_roundw
    case rel=>exact⟨k+1,z+1,ns,J,by have:=HZ.out;omega,by go_num,F.out,C.out.2⟩
    simp[intOf];omega
   have hq:((((bya (qx i))[k]'hkb).toNat:Int)==119)=false:=by
        rw[hcf];exact beq_false_of_ne (λq=>N (UInt8.toNat.inj (by show (qx i)[k].toNat=119;omega)))
   rw[if_neg N]at K;have NM:=qwe x (o.out.sm x hxm) wr (o.out.gl.later C.out.2.2)
   have F:Hid (qaq ((qx i).take (k+1)) (l.take (k+1))=match qbw x with
        |none=>none
        |some v=>some (ns++[v])):=K
   go_wp2_with fail
   refine NM.mono ?_;rintro e w2 ⟨O,B⟩;have bw2:Bw w w2:=qa C.out.2.2 B;cases P:qbw x with
   |none=>
    rw[P]at O F;have V:e=.returned (.tuple #[U 0,.bool false]):=O;subst V;have D:Hid (vl i W l w hb G (.returned (.tuple #[.string ⟨#[]⟩,U 3])) w2):=⟨[],3,rfl,W,[],qc2.no (by rw[E.out.2];exact q19 I.out.symm F.out),(λh=>by cases h),o.out.hs.same o.out.g bw2⟩
    go_wp2
    go_ret2;exact D.out
   |some v=>
    rw[P]at O F;have V:e=.returned (.tuple #[U v,.bool true]):=O;subst V;have bz:=boxed (jcc _ w2) (.cells #[U v] 3);have own2:=qg3 (qg3 C.out.2.1 B) bz
    have hnl:ns.length<=3:=by
     have q1:=qd0 C.out.1
     have q2:∀f:List UInt8,qhk f<=f.length:=λf=>by
         induction f with
         |nil=>exact jcd _
         |cons c r ih=>unfold qhk;split<;>simp only[List.length_cons]<;>omega
     have:=q2 ((qx i).take k);rw[jc5]at this;omega
    have H:Hid (Bw w w2/\ns.length<=3):=⟨bw2,hnl⟩;have HN2:Hid (qaq ((qx i).take (k+1)) (l.take (k+1))=some (ns++[v])):=F.out
    go_wp2_with (at_builtin;refine wpList_append_lies _ rfl _ _ 69 rfl w.heap.size 3 i0 (U 0) 1 8 Tryz.underlying69 hinf hz0 hz1 hz2 rfl (by decide) _ _ _ rfl own2 (AD w2.heap.size 0) 1 1 [U v] rfl rfl (World.news_of_block (heap_alloc_new w2 (.cells #[U v] 3))) ?c2 (by decide) ?c3 ?c4 ?c5 _ rfl ?_)
    case c2=>intro u hu;simp at hu;subst hu;rfl
    case c3=>have:=H.out.2;unfold maxLen;omega
    case c4=>have:=H.out.2;omega
    case c5=>have:=H.out.1.size;simp;omega
    intro gb gc w3 own3 gr3 at3 lt3
    have D:Hid (w3.ownsRow w.heap.size 3 1 (.slice (PT gb) (ns.length+1) gc) (ns++[v]).length (qec (ns++[v]))/\Bw w w3):=by
     refine⟨by simpa[qec]using own3,?_⟩;exact(H.out.1.alloc H.out.1.size _).grown gr3 (by have:=H.out.1.size;simp;omega) (λq e=>(own2.lt q e).1)
    go_wp2
    go_roundw
    case rel=>exact⟨k+1,z+1,ns++[v],J,by have:=HZ.out;omega,by go_num,HN2.out,D.out⟩
    simp[intOf];omega
  have g1:¬z<(l.length:Int):=by omega
  have hkl:k=l.length:=by omega
  have hw0:=o.out.wi.wf;have hsr:=o.out.hs.later C.out.2.2
  have hns:qaq (qx i) l=some ns:=by
   have:=C.out.1;rw[hkl,jc9,I.out,jc9]at this;exact this
  obtain⟨X,Y,e10,hnc,hcells⟩:=q97 C.out.2.1;have hN:qx9 wr w.heap.size X Y ns:=⟨hnc,hcells⟩;have c0:=hsr.cell;have m:Hid (qaq (qx i) l=some ns/\qx9 wr w.heap.size X Y ns/\qhp wr hb b Gw W/\Bw w wr):=⟨hns,hN,hsr,C.out.2.2⟩;subst e10;have hne:=qb.one
  have TH0:∀(x:qb wr) (v:Bool),thB W (qx i) ns=v->Ca 30 #[PP hb,.string (bya (qx i)),.slice X ns.length Y] x.val λe w'=>e=.returned (.bool v)/\Below x.val.heap.size x.val w':=λx v P=>by
   have:=qxb (qx i) ns hf3 (qyi i E.out.1) (qd0 m.out.1) x.val (m.out.2.2.1.later x.below) o.out.wi.wf (m.out.2.1.later x.below)
   rwa [P]at this
  cases hth:thB W (qx i) ns with
  |false=>
   have L:=λx:qb wr=>TH0 x false hth;have Q:Hid (thB W (qx i) ns=false):=hth
   go_upto_region 15 with fail
   refine wrl ?_
   repeat (go_big_quiet_step (first|rfl|(go_at_call 30;with_reducible exact qg (L _))))
   refine wpQuiet_nil ?_;rintro w2 ⟨⟨_,B⟩,rfl⟩
   have D:Hid (vl i W l w hb G (.returned (.tuple #[.string ⟨#[]⟩,U 2])) w2):=by
        obtain⟨t,hc⟩:=q1x (W:=W) (d:=l.getD 2 ⟨#[]⟩) i E.out.1 ns (qd0 m.out.1) Q.out;exact⟨[],2,rfl,W,t,qc2.yes (E.out.2.trans m.out.1) hc,(λh=>by cases h),o.out.hs.same o.out.g (qa m.out.2.2.2 B)⟩
   go_wp2
   go_ret2;exact D.out
  |true=>
   have L:=λx:qb wr=>TH0 x true hth;have Q:Hid (thB W (qx i) ns=true):=hth;by_cases Z:i=1
   ·subst Z;have aa:=qd0 m.out.1
    obtain⟨x,y,rfl⟩:∃x y,ns=[x,y]:=by
     rcases ns with _|⟨x,_|⟨y,_|⟨z,r⟩⟩⟩
     ·simp[qx,qb8,qhk]at aa
     ·simp[qx,qb8,qhk]at aa
     ·exact⟨x,y,rfl⟩
     simp[qx,qb8,qhk]at aa
    obtain⟨g,rfl,_,hgl,q0⟩:=m.out.2.1.cell 0 x rfl;obtain⟨g',M,_,_,q1⟩:=m.out.2.1.cell 1 y rfl;injection M with M;injection M with M;subst M;have c1:=qb.cell q0;have c2:=qb.cell q1;have hnc:=m.out.2.1.cap
    have hq1:(qn 1==[97,115,107])=true:=by decide
    by_cases R:x=y
    ·have hxy2:(x==y)=true:=by simp[R]
     have ac:Hid (x=y):=R
     go_upto_region 15 with fail
     refine wrl ?_
     repeat (go_big_quiet_step (first|rfl|(go_at_call 30;with_reducible exact qg (L _))))
     refine wpQuiet_nil ?_;rintro w2 ⟨⟨_,B⟩,rfl⟩
     have D:Hid (vl 1 W l w hb G (.returned (.tuple #[.string ⟨#[]⟩,U 2])) w2):=
         ⟨[],2,rfl,W,qn 1,qc2.yes (E.out.2.trans m.out.1) ⟨rfl,by rw[if_neg (λe=>e.2.2 ac.out)];exact⟨rfl,rfl⟩⟩,(λh=>by cases h),o.out.hs.same o.out.g (qa m.out.2.2.2 B)⟩
     go_wp2
     go_ret2;exact D.out
    have hxy2:(x==y)=false:=by simp[R]
    have ac:Hid (x≠y):=R
    go_upto_region 15 with fail
    refine wrl ?_
    repeat (go_big_quiet_step (first|rfl|(go_at_call 30;with_reducible exact qg (L _))))
    refine wpQuiet_nil ?_;rintro w2 ⟨⟨_,B⟩,rfl⟩
    iterate 6 go_step
    exact ad.out (λn=>List.getD [undef,undef,undef,_,_,_,_,_,_,_,undef,_,_,_,_,undef,_,_,_,_,_,_,_,_,_,_,_,_,_,_,_,_,_,_,_,_,_,_,_,_,_,_,_,_,_,_,_,_,_,_,_,_,_,_,_,_,_,_,_,_,_,_,_,_,_,_,_,_,_,_,_,_,_,_,_,_,_,_,_,_,_,_,_,_,_,_,_] n undef) o.out (E.out.2.trans m.out.1) (qd0 m.out.1) Q.out (λ_ p q e=>by injection e with e1 e2;injection e2 with e2;rw[<-e1,<-e2];exact ac.out) (m.out.2.1.later B) (qa m.out.2.2.2 B)
   have hq1:=q9b i E.out.1 Z;have HI1:Hid (i≠1):=Z
   go_upto_region 15 with fail
   refine wrl ?_
   repeat (go_big_quiet_step (first|rfl|(go_at_call 30;with_reducible exact qg (L _))))
   refine wpQuiet_nil ?_;rintro w2 ⟨⟨_,B⟩,rfl⟩
   iterate 6 go_step
   exact ad.out (λn=>List.getD [undef,undef,undef,_,_,_,_,_,_,_,undef,_,_,_,_,undef,_,_,_,_,_,_,_,_,_,_,_,_,_,_,_,_,_,_,_,_,_,_,_,_,_,_,_,_,_,_,_,_,_,_,_,_,_,_,_,_,_,_,_,_,_,_,_,_,_,_,_,_,_,_,_,_,_,_,_,_,_,_,_,_,_,_,_,_,_,_,_] n undef) o.out (E.out.2.trans m.out.1) (qd0 m.out.1) Q.out (λe=>absurd e HI1.out) (m.out.2.1.later B) (qa m.out.2.2.2 B)
 have D:Hid (vl i W l w hb G (.returned (.tuple #[.string ⟨#[]⟩,U 3])) w):=⟨[],3,rfl,W,[],qc2.no (by rw[q0d i hi,if_neg S]),(λh=>by cases h),o.out.hs.same o.out.g (jcc _ _)⟩
 have hl2:¬((qx i).length:Int)=l.length:=by omega
 go_enter Tryz.func16,Tryz.ntmps16
 go_wp2
 go_ret2;exact D.out
theorem qsd (h:0=ns.length):ns=[]:=List.length_eq_zero_iff.1 h.symm
theorem qit (h:1=ns.length):∃x,ns=[x]:=by
 rcases ns with _|⟨x,_|⟨y,r⟩⟩
 ·simp at h
 ·exact⟨x,rfl⟩
 simp at h
theorem qk0 (h:2=ns.length):∃x y,ns=[x,y]:=by
 rcases ns with _|⟨x,_|⟨y,_|⟨z,r⟩⟩⟩
 ·simp at h
 ·simp at h
 ·exact⟨x,y,rfl⟩
 simp at h
theorem qac {x:Int} {c:Nat} (h:inB x 0 ((c:Int)-1)=true):∃k:Nat,x=k/\k<c/\ye x c/\x.toNat=k:=by
 simp[inB]at h;exact⟨x.toNat,by omega,by omega,⟨by omega,by omega⟩,rfl⟩
section
variable {w w2 w3 w4:World} {n0 hb b j i cap:Nat} {Gw G:Nat->Prop} {W W':WoS} {a:Option Addr} {l:List ByteArray} {ns:List Int} {er:Int} {t told:List UInt8}
theorem qgm.few {k:Nat} (h:qgm w n0 hb b Gw G W j a cap l) (d:k<W.c):(W.ses k).ws.length<=1000000:=jcn (h.wi.ln k d) h.jl
theorem qgm.fin (h:qgm w n0 hb b Gw G W j a cap l) (c:qeb i l=some ns) (d:Bw w w2) (e:qaa i W ns (l.getD 2 ⟨#[]⟩) W' er t) (f:er=0->told=t) (k:qae w2 b Gw W' w3) (m:Bw w3 w4):vl i W l w hb G (.returned (.tuple #[.string (bya told),U er])) w4:=
 ⟨told,er,rfl,W',t,qc2.yes c e,f,q7n (h.hs.op h.g d k) m⟩
theorem qgm.tell (h:qgm w n0 hb b Gw G W j a cap l) (c:qeb i l=some ns) (d:Bw w w2) (e:qaa i W ns (l.getD 2 ⟨#[]⟩) W er t) (f:er=0->told=t):vl i W l w hb G (.returned (.tuple #[.string (bya told),U er])) w2:=
 ⟨told,er,rfl,W,t,qc2.yes c e,f,h.hs.same h.g d⟩
end
theorem q68 (h:qeb 18 l=some ns):∃x y d,l=[x,y,d]:=by
 unfold qeb at h;rw[if_pos rfl]at h;rcases l with _|⟨x,_|⟨y,_|⟨d,_|⟨z,r⟩⟩⟩⟩
 ·simp at h
 ·simp at h
 ·simp at h
 ·exact⟨x,y,d,rfl⟩
 simp at h
end
section
open Go.RowKit
theorem qzx {w:World} {d c b j cap:Nat} {Gw G:Nat->Prop} {W:WoS} {a:Option Addr} {l:List ByteArray} (h:qgm w d c b Gw G W j a cap l) (s:ByteArray) (f:s.size<=maxLen) (g:∀i,i<19->s.data.toList≠qn i):
 Ca 16 #[PP c,.string s,.slice a l.length cap] w λe w'=>e=.returned (.tuple #[.string ⟨#[]⟩,U 3])/\w'=w:=by
 obtain⟨bm,m,k,_⟩:=h.fm;have n:=k.lacks f g;go_enter Tryz.func16,Tryz.ntmps16
 go_wp2
 go_ret2;exact⟨rfl,rfl⟩
end
section
open Go.Lib
def wds:List UInt8->List UInt8->List (List UInt8)
 |cur,[]=>if cur=[]then []else [cur]
 |cur,c::r=>if c=32 then (if cur=[]then wds [] r else cur::wds [] r)else wds (cur++[c]) r
theorem qvn:∀(k:Nat) (cur l:List UInt8),k<=l.length->(∀j,j<k->l.getD j 0≠32)->wds cur l=wds (cur++l.take k) (l.drop k)
 |0,cur,l,_,_=>by simp
 |k+1,cur,[],h,_=>by simp at h
 |k+1,cur,b::t,h,hz=>by
  have a:b≠32:=hz 0 (by omega)
  have e:wds cur (b::t)=wds (cur++[b]) t:=by rw[wds,if_neg a]
  rw[e,qvn k (cur++[b]) t (by simp at h;omega) (λj c=>hz (j+1) (by omega))];simp
theorem qh9 (c:UInt8) (s:List UInt8):vm c s≠[]:=by
 cases s with
 |nil=>simp[vm]
 |cons x r=>
  unfold vm;split
  ·simp
  split<;>simp
theorem q5q (l:List UInt8):∀cur h t,vm 32 l=h::t->wds cur l=((cur++h)::t).filter (λx=>decide (x≠[])):=by
 induction l with
 |nil=>
  intro cur h t e;cases e;unfold wds
  by_cases q:cur=[]<;>simp[q]
 |cons c r ih=>
  intro cur h t e;unfold vm at e;unfold wds
  obtain⟨f,g,d⟩:∃f g,vm 32 r=f::g:=by
   cases q:vm 32 r with
   |nil=>exact absurd q (qh9 _ _)
   |cons a b=>exact⟨a,b,rfl⟩
  by_cases i:c=32
  ·rw[if_pos i]at e ⊢;injection e with e1 e2;subst e1 e2;have:=ih [] f g d;by_cases q:cur=[]
   ·rw[if_pos q,this,d,q];simp
   rw[if_neg q,this,d];simp[q]
  rw[if_neg i,d]at e;rw[if_neg i];injection e with e1 e2;subst e1 e2;rw[ih (cur++[c]) f g d];simp
theorem qwz (s:ByteArray) (a:Nat) (h:a<s.size):if (Utf8.decode s a).1=32 then (s.data.toList.drop a=32::s.data.toList.drop (a+1)/\(Utf8.decode s a).2=1)else ∀j,j<(Utf8.decode s a).2->(s.data.toList.drop a).getD j 0≠32:=by
 have l:a<s.data.toList.length:=by rw[<-size_eq];exact h
 have m:s.data.toList.getD a 0=s.data.toList[a]:=by rw[jdp,jcg l];rfl
 have n:∀b:UInt8,b.toNat=32->b=32:=λb c=>UInt8.toNat.inj (by rw[c];rfl);have g:=decodeN_cases (s.data.toList.length-a) (s.data.toList.getD a 0).toNat (s.data.toList.getD (a+1) 0).toNat (s.data.toList.getD (a+2) 0).toNat (s.data.toList.getD (a+3) 0).toNat;have e:=decodeN_conts (s.data.toList.length-a) (s.data.toList.getD a 0).toNat (s.data.toList.getD (a+1) 0).toNat (s.data.toList.getD (a+2) 0).toNat (s.data.toList.getD (a+3) 0).toNat
 have i:(s.data.toList.getD a 0).toNat=32->(Utf8.decode s a).1=32:=λq=>by rw[decode_N,q];simp[decodeN]
 rw[<-decode_N]at g e
 generalize Utf8.decode s a=d at g e i
 obtain⟨r,k⟩:=d;simp only[Prod.mk.injEq]at g e i ⊢;by_cases f:r=32
 ·rw[if_pos f];subst f
  have q:(s.data.toList.getD a 0).toNat=32/\k=1:=by omega
  refine⟨?_,q.2⟩;rw[jdy l,<-m,n _ q.1]
 rw[if_neg f];intro j v;rw[getD_dropU];intro o
 have c:(s.data.toList.getD (a+j) 0).toNat=32:=by rw[o];rfl
 obtain⟨p,t,u,w⟩:=e;rcases j with _|_|_|_|j
 ·exact f (i c)
 ·have:=p (by omega);simp only[Nat.zero_add]at c;omega
 ·have:=t (by omega);simp only[Nat.zero_add,Nat.reduceAdd]at c;omega
 ·have:=u (by omega);simp only[Nat.zero_add,Nat.reduceAdd]at c;omega
 omega
theorem qh5 (s:ByteArray):∀(f c:Nat) (d:Option Nat) (i:List (Nat×Nat)),s.size<=c+f->c<=s.size->(∀a,d=some a->a<c)->
 i.map (λp=>pieceU s.data.toList p.1 p.2)++wds (openPiece s.data.toList d c) (s.data.toList.drop c)=(closeSpans s (spansFromP (λr=>decide (r=32)) s f c d i)).map (λp=>pieceU s.data.toList p.1 p.2)
 |0,c,d,i,h,hp,hst=>by
  obtain rfl:c=s.size:=by omega
  have l:s.data.toList.drop s.size=[]:=jdw (by rw[<-size_eq];exact jcd _);rw[l,wds];cases d with
  |none=>simp[spansFromP,closeSpans,openPiece]
  |some a=>
   have:=pieceU_ne s.data.toList a s.size (hst a rfl) (by rw[<-size_eq];exact jcd _);simp[spansFromP,closeSpans,openPiece,this]
 |f+1,c,d,i,h,hp,hst=>by
  by_cases m:c<s.size
  ·have q:=width_pos s c
   have n:c+(Utf8.decode s c).2<=s.size:=by
    have:=decodeN_le_n' (s.size-c) (s.get! c).toNat (s.get! (c+1)).toNat (s.get! (c+2)).toNat (s.get! (c+3)).toNat (by omega);rw[<-decode_at]at this;omega
   have j:=qwz s c m;simp only[spansFromP,if_pos m];by_cases k:(Utf8.decode s c).1=32
   ·rw[if_pos k]at j;rw[if_pos (decide_eq_true k),j.1,j.2,wds,if_pos rfl];cases d with
    |none=>
     have g:=qh5 s f (c+1) none i (by omega) (by omega) (λa h=>by cases h);simpa[openPiece]using g
    |some a=>
     have o:=pieceU_ne s.data.toList a c (hst a rfl) (by rw[<-size_eq];omega);have g:=qh5 s f (c+1) none (i++[(a,c)]) (by omega) (by omega) (λa h=>by cases h);simpa[openPiece,o]using g
   rw[if_neg k]at j;rw[if_neg (by simpa using k),qvn _ _ _ (by rw[jdt,<-size_eq];omega) j,List.drop_drop];cases d with
   |none=>
    have g:=qh5 s f (c+(Utf8.decode s c).2) (some c) i (by omega) n (λa h=>by cases h;omega)
    have e:([]:List UInt8)++(s.data.toList.drop c).take (Utf8.decode s c).2=pieceU s.data.toList c (c+(Utf8.decode s c).2):=by
     unfold pieceU;rw[jda,Nat.add_sub_cancel_left]
    simp only[openPiece]at g ⊢;rw[e];exact g
   |some a=>
    have g:=qh5 s f (c+(Utf8.decode s c).2) (some a) i (by omega) n (λb h=>by cases h;have:=hst a rfl;omega);simp only[openPiece]at g ⊢;rw[pieceU_grow _ _ _ _ (Nat.le_of_lt (hst a rfl))];exact g
  obtain rfl:c=s.size:=by omega
  have l:s.data.toList.drop s.size=[]:=jdw (by rw[<-size_eq];exact jcd _);rw[l,wds,spansFromP_end _ s _ _ _ _ m];cases d with
  |none=>simp[closeSpans,openPiece]
  |some a=>
   have:=pieceU_ne s.data.toList a s.size (hst a rfl) (by rw[<-size_eq];exact jcd _);simp[closeSpans,openPiece,this]
theorem qwu (s:ByteArray):qa9 s=((vm 32 s.data.toList).filter (λx=>decide (x≠[]))).map bya:=by
 have h:=qh5 s s.size 0 none [] (by omega) (jcw _) (λa h=>by cases h);simp only[List.map_nil,jda,openPiece,List.drop_zero]at h
 obtain⟨c,d,e⟩:∃c d,vm 32 s.data.toList=c::d:=by
  cases q:vm 32 s.data.toList with
  |nil=>exact absurd q (qh9 _ _)
  |cons a b=>exact⟨a,b,rfl⟩
 rw[q5q _ [] c d e,jda,<-e]at h;unfold qa9 goFieldsP spansOfP;rw[h,List.map_map]
 congr 1
 funext p
 have q:(s.extract p.1 p.2).data.toList=pieceU s.data.toList p.1 p.2:=by simp[pieceU]
 show s.extract p.1 p.2=bya (pieceU s.data.toList p.1 p.2);rw[<-q]
theorem q3l (s t:List UInt8):vm 10 (s++10::t)=vm 10 s++vm 10 t:=by
 rw[<-qgw,<-qgw,<-qgw,qxl]
theorem qqc:∀(s:List UInt8) (x:UInt8),x≠10->(vm 10 (s++[x])).getLast?≠some []
 |[],x,h=>by simp[vm,h]
 |c::r,x,h=>by
  have d:=qqc r x h;rw[jdj];unfold vm;by_cases e:c=10
  ·rw[if_pos e,List.getLast?_cons];cases q:vm 10 (r++[x])with
   |nil=>exact absurd q (qh9 _ _)
   |cons a b=>rw[q]at d;simpa[List.getLast?_cons]using d
  rw[if_neg e];cases q:vm 10 (r++[x])with
  |nil=>exact absurd q (qh9 _ _)
  |cons a b=>
   rw[q]at d;cases b with
   |nil=>simp
   |cons y z=>simpa[List.getLast?_cons]using d
theorem quq (s:List UInt8):qfq s=if 1<(vm 10 s).length/\(vm 10 s).getLast?=some []then (vm 10 s).dropLast else vm 10 s:=by
 unfold qfq;rw[qgw];rcases List.eq_nil_or_concat s with rfl|⟨a,x,rfl⟩
 ·simp[Lib.trimSuffix,Lib.hasSuffix,vm]
 rw[List.concat_eq_append];by_cases e:x=10
 ·subst e;rw[qtq,q3l];have b:0<(vm 10 a).length:=List.length_pos_iff.2 (qh9 _ _);rw[if_pos ⟨by simp[vm];omega,by simp[vm]⟩];simp[vm]
 have:=qqc a x e;rw[if_neg (λq=>this q.2)]
 congr 1
 have q:=q4s a [x] (by simp);rw[q];unfold Lib.trimSuffix;rw[if_neg (by simp[Lib.hasSuffix,List.isSuffixOf,List.isPrefixOf];exact λh=>e h.symm)]
end
section
open Go.RowKit Go.Lib
theorem qub (x:Nat) (w:World):Ca 71 #[.int .i32 (x:Int)] w λe w'=>e=.returned (.bool (decide (x=32)))/\w'=w:=by
 have h:((x:Int)==32)=decide (x=32):=by rw[Bool.eq_iff_iff,beq_iff_eq,decide_eq_true_eq];omega
 go_enter Tryz.func71,Tryz.ntmps71
 go_wp2
 go_ret;exact⟨rfl,rfl⟩
theorem qkj (s:ByteArray) (c:s.size<=4294967296) (w:World):Ca 26 #[.string s] w λe w'=>∃A,e=.returned (.slice (PT A) (qa9 s).length (qa9 s).length)/\w.heap.size<=A/\qfj w' (PT A) (qa9 s).length (qa9 s)/\Bw w w':=by
 have d:=jd4 71 #[] (λargs w=>by kernel_rfl) (λr=>decide (r=32)) s w c (λW x _ _=>(qub x W).mono λe w' ⟨f,g⟩=>⟨f,0,g⟩);go_enter Tryz.func26,Tryz.ntmps26
 go_wp2_with fail
 refine d.mono ?_;rintro e h ⟨A,rfl,i,a,k⟩
 have l:Hid (qfj h (PT A) (qa9 s).length (qa9 s)):=⟨jcd _,λj x b=>⟨A,0,rfl,(a.lt A rfl).2,by
  have m:=(jck.1 b).1;rw[Nat.zero_add,a.cellAt j (by rw[Nat.mul_one];exact m),jcv];show Option.map _ (qa9 s)[j]?=_
  rw[b];rfl⟩⟩
 go_wp2
 go_ret;exact⟨A,rfl,i,l.out,k⟩
end
section
open Go.RowKit
theorem qo4 (p:Addr) (w:World):
 CallsD Tryz.prog 25 #[.pointer (some p)] .returning w λe a w'=>e=.returned (.tuple #[])/\a=.returning/\w'=w:=by
 have b:∀w,(Instr.typeAssert .nilIface 20 26 true).run Tryz.prog w=.ok (.tuple #[U 0,.bool false]) w:=λ_=>by kernel_rfl
 refine callsD_of_wpS Tryz.func25 rfl λc f d=>?_
 apply wpS_seq
 apply wpS_region
 simp[wpOpsS,go_sem,recoverD,d,Tryz.ntmps25,Exit.thenS,b]
 apply wpS_seq
 apply wpS_region
 simp[wpOpsS,go_sem,Exit.thenS];refine wpS_cond (t:=false) (by simp[Act.eval,Array.replicate]) ?_;simp only[Bool.false_eq_true,if_false];refine wpS_of_wp (wp_skip ?_);cases c
 simp_all [bodyPostS,results,Tryz.results25]
theorem qny (p:Addr) (s:Value) (n:Int) (f:wfI n) (b:List PanicEntry) (w:World) (g:Gl w) (c:w.cell? p=some s) (h:w.frozen? p=false):
 CallsD Tryz.prog 25 #[.pointer (some p)] (.panicking ({v:=.iface 26 (U n),recovered:=false}::b)) w λe i w'=>
  e=.returned (.tuple #[])/\i=.panicking ({v:=.iface 26 (U n),recovered:=true}::b)/\∃w2,Bw w w2/\w'=w2.setCell p (.string (bya (qgt n))):=by
 have j:∀w,(Instr.typeAssert (.iface 26 (U n)) 20 26 true).run Tryz.prog w=.ok (.tuple #[U n,.bool true]) w:=λ_=>by kernel_rfl
 have k:=qq7 n f w g;refine callsD_of_wpS Tryz.func25 rfl λm o l=>?_
 apply wpS_seq
 apply wpS_region
 simp[wpOpsS,go_sem,recoverD,l,Tryz.ntmps25,Exit.thenS,j]
 apply wpS_seq
 apply wpS_region
 simp[wpOpsS,go_sem,Exit.thenS];refine wpS_cond (t:=true) (by simp[Act.eval,Array.replicate]) ?_;simp only[if_true];refine wpS_of_wp ?_;simp only[Array.replicate,List.replicate,List.setIfInBounds_toArray,List.set_cons_zero,List.set_cons_succ,List.append_toArray,jdj,jda]
 go_wp2_with fail
 refine k.mono ?_;rintro e w2 ⟨rfl,a⟩;have d:=jcr _ _ c;have q:=(a.cell d).trans c;have r:=(a.frozen d).trans h
 go_wp2
 simp[bodyPostS,results,Tryz.results25];exact⟨w2,a,rfl⟩
end
section
open Tryz Go.RowKit
variable {f M i:Nat}
section
variable {cb mb b j cap:Nat} {Gw G:Nat->Prop} {W:WoS} {a:Option Addr} {l:List ByteArray}
theorem qka (w:World) (h:vk w cb mb b Gw G W j a cap l) (s:(f,M,i)∈[(46,94,0),(48,98,2),(52,104,6),(56,109,10),(62,116,16),(61,115,15)]) (y:∀(v:Int) c,PW c b Gw W->Ca M #[PP b,U v] c (qgr i W [v] ⟨#[]⟩ c b Gw)):Ca f #[PP cb,.slice a l.length cap] w (jm i W l w cb mb G):=by
 have g:Hid (vk w cb mb b Gw G W j a cap l):=h;have m:=λw' t=>qi1 h.sm w' (h.gl.later (w':=w') t) (h.st.later t);replace m:=m w.drew (jcc _ w).drew;have H:=h.ck.cell0;have z:Hid (∀(v:Int) c,PW c b Gw W->Ca M #[PP b,U v] c (qgr i W [v] ⟨#[]⟩ c b Gw)):=y;simp only[jdd,Prod.mk.injEq,List.not_mem_nil,or_false]at s;rcases s with ⟨rfl,rfl,rfl⟩|⟨rfl,rfl,rfl⟩|⟨rfl,rfl,rfl⟩|⟨rfl,rfl,rfl⟩|⟨rfl,rfl,rfl⟩|⟨rfl,rfl,rfl⟩
 all_goals
  first
   |go_enter func46,ntmps46
   |go_enter func48,ntmps48
   |go_enter func52,ntmps52
   |go_enter func56,ntmps56
   |go_enter func62,ntmps62
   |go_enter func61,ntmps61
  go_wp2
  refine wp_region_any (by kernel_rfl) ?_;change wpAny _ _ _ _ _ _ _ (World.drew _);refine wpAny_take (i:=0) (v:=?_) rfl (by kernel_rfl) (by kernel_rfl) (by kernel_rfl) (λ_ _ _ h=>h) (Or.inl ⟨by rfl,?_⟩) ?_
  rotate_left
  ·intro w0;first|(go_simp;done)|(go_simp;with_reducible rfl)
  go_simp
  refine wpAny_take (i:=1) (v:=?_) rfl (by kernel_rfl) (by kernel_rfl) (by kernel_rfl) (λ_ _ _ h=>h) (Or.inl ⟨by rfl,?_⟩) ?_
  rotate_left
  ·intro w0;first|(go_simp;done)|(go_simp;with_reducible rfl)
  go_simp
  refine wpAny_take (i:=2) (v:=?_) rfl (by kernel_rfl) (by kernel_rfl) (by kernel_rfl) (λ_ _ _ h=>h) (Or.inl ⟨by rfl,?_⟩) ?_
  rotate_left
  ·intro w0;first|(go_simp;done)|(go_simp;with_reducible rfl)
  go_simp
  refine wpAny_take (i:=4) (v:=?_) rfl (by kernel_rfl) (by kernel_rfl) (by kernel_rfl) (λ_ _ _ h=>h) (Or.inl ⟨by rfl,?_⟩) ?_
  rotate_left
  ·intro w0;first|(go_simp;done)|(go_simp;with_reducible rfl)
  go_simp
  refine wpAny_ready (rs:=[3,5]) (by kernel_rfl) (by simp) ?_;refine AllReady.cons rfl (λK d=>?_) (AllReady.cons rfl (λK d=>?_) AllReady.nil)
  dsimp only[List.getElem_toArray,List.getElem_cons_succ,List.getElem_cons_zero]
  go_simp
  refine d _ _ ?_;refine wpAny_ready (rs:=[5]) (by kernel_rfl) (by simp) ?_;refine AllReady.cons rfl (λK d=>?_) AllReady.nil
  dsimp only[List.getElem_toArray,List.getElem_cons_succ,List.getElem_cons_zero]
  rw[if_pos (by rfl)];refine qbu 95 #[.slice a l.length cap] (by go_simp) m ?_;rintro e c ⟨n,(⟨v,k,rfl⟩|⟨k,rfl⟩)⟩
  rotate_left
  ·exact .inr ⟨_,rfl,rfl,g.out.no (by decide) k.out (qa (jcc _ w).drew n)⟩
  dsimp only[List.getElem_toArray,List.getElem_cons_succ,List.getElem_cons_zero]
  rw[if_pos (by rfl)];refine qbu 95 #[.slice a l.length cap] (by go_simp) m ?_;rintro e c ⟨n,(⟨v,k,rfl⟩|⟨k,rfl⟩)⟩
  rotate_left
  ·exact .inr ⟨_,rfl,rfl,g.out.no (by decide) k.out (qa (jcc _ w).drew n)⟩
  all_goals
   have o:=qa (jcc _ w).drew n;have I:=(g.out.ck.later o).cell0;have B:=z.out v c (g.out.ck.later o).pw;refine .inl ⟨_,rfl,?_⟩
   go_simp
   refine d _ _ ?_
  rotate_left
  refine wpAny_ready (rs:=[3]) (by kernel_rfl) (by simp) ?_;refine AllReady.cons rfl (λK d=>?_) AllReady.nil
  dsimp only[List.getElem_toArray,List.getElem_cons_succ,List.getElem_cons_zero]
  go_simp
  refine d _ _ ?_
  all_goals
   refine wpAny_ready (rs:=[6]) (by kernel_rfl) (by simp) ?_;refine AllReady.cons rfl (λK d=>?_) AllReady.nil
   dsimp only[List.getElem_toArray,List.getElem_cons_succ,List.getElem_cons_zero]
   rw[if_pos (by rfl)];refine qbu _ #[PP b,U v] (by go_simp) B ?_;rintro e w2 ⟨W',er,C,rfl,u⟩;have D:=qda er w2 (g.out.gl2 o u);have x:Hid (∀e p,Bw w2 p->qlx er (qn _) e->jm _ W l w cb mb G e p):=λe p q E=>g.out.yes (by decide) (by exact k.out) o (C.data (by decide)) u q E;refine .inl ⟨_,rfl,?_⟩
   go_simp
   refine d _ _ ?_;refine wpAny_ready (rs:=[7]) (by kernel_rfl) (by simp) ?_;refine AllReady.cons rfl (λK d=>?_) AllReady.nil
   dsimp only[List.getElem_toArray,List.getElem_cons_succ,List.getElem_cons_zero]
   rw[if_pos (by rfl)];refine qbu 66 #[jc er] (by go_simp) D ?_;rintro e p ⟨q,(⟨r,rfl⟩|⟨r,rfl⟩)⟩
   rotate_left
   ·exact .inr ⟨_,rfl,rfl,x.out _ _ q (.inr ⟨r,rfl⟩)⟩
   have F:=x.out _ _ q (.inl ⟨r,rfl⟩);refine .inl ⟨_,rfl,?_⟩
   go_simp
   refine d _ _ ?_;refine wpAny_done (by kernel_rfl) ?_ _
   go_wp2
   go_ret;exact F
theorem q4h (w:World) (h:vk w cb mb b Gw G W j a cap l):Ca 46 #[PP cb,.slice a l.length cap] w (jm 0 W l w cb mb G):=qka w h (M:=94) (by decide) λv c d=>q4g v c d
theorem q5e (w:World) (h:vk w cb mb b Gw G W j a cap l):Ca 48 #[PP cb,.slice a l.length cap] w (jm 2 W l w cb mb G):=qka w h (M:=98) (by decide) λv c d=>q5d v c d h.wi
theorem qze (w:World) (h:vk w cb mb b Gw G W j a cap l):Ca 52 #[PP cb,.slice a l.length cap] w (jm 6 W l w cb mb G):=qka w h (M:=104) (by decide) λv c d=>qyp v c d h.wi
theorem q8t (w:World) (h:vk w cb mb b Gw G W j a cap l):Ca 56 #[PP cb,.slice a l.length cap] w (jm 10 W l w cb mb G):=qka w h (M:=109) (by decide) λv c d=>q99 v c d h.wi
theorem q6l (w:World) (h:vk w cb mb b Gw G W j a cap l):Ca 62 #[PP cb,.slice a l.length cap] w (jm 16 W l w cb mb G):=qka w h (M:=116) (by decide) λv c d=>q50 v c d
theorem q59 (w:World) (h:vk w cb mb b Gw G W j a cap l):Ca 61 #[PP cb,.slice a l.length cap] w (jm 15 W l w cb mb G):=qka w h (M:=115) (by decide) λv c d=>q39 v c d h.wi
theorem qtj (w:World) (h:vk w cb mb b Gw G W j a cap l) (s:(f,M,i)∈[(47,96,1),(54,106,8),(58,112,12)]) (z:∀(u v:Int) c,PW c b Gw W->Ca M #[PP b,U u,U v] c (qgr i W [u,v] ⟨#[]⟩ c b Gw)):Ca f #[PP cb,.slice a l.length cap] w (jm i W l w cb mb G):=by
 have g:Hid (vk w cb mb b Gw G W j a cap l):=h;have m:=λw' t=>qls h.sm w' (h.gl.later (w':=w') t) (h.st.later t);replace m:=m w.drew (jcc _ w).drew;have I:=h.ck.cell0;have B:Hid (∀(u v:Int) c,PW c b Gw W->Ca M #[PP b,U u,U v] c (qgr i W [u,v] ⟨#[]⟩ c b Gw)):=z;simp only[jdd,Prod.mk.injEq,List.not_mem_nil,or_false]at s;rcases s with ⟨rfl,rfl,rfl⟩|⟨rfl,rfl,rfl⟩|⟨rfl,rfl,rfl⟩
 all_goals
  first
   |go_enter func47,ntmps47
   |go_enter func54,ntmps54
   |go_enter func58,ntmps58
  go_wp2
  refine wp_region_any (by kernel_rfl) ?_;change wpAny _ _ _ _ _ _ _ (World.drew _);refine wpAny_take (i:=0) (v:=?_) rfl (by kernel_rfl) (by kernel_rfl) (by kernel_rfl) (λ_ _ _ h=>h) (Or.inl ⟨by rfl,?_⟩) ?_
  rotate_left
  ·intro w0;first|(go_simp;done)|(go_simp;with_reducible rfl)
  go_simp
  refine wpAny_take (i:=1) (v:=?_) rfl (by kernel_rfl) (by kernel_rfl) (by kernel_rfl) (λ_ _ _ h=>h) (Or.inl ⟨by rfl,?_⟩) ?_
  rotate_left
  ·intro w0;first|(go_simp;done)|(go_simp;with_reducible rfl)
  go_simp
  refine wpAny_take (i:=2) (v:=?_) rfl (by kernel_rfl) (by kernel_rfl) (by kernel_rfl) (λ_ _ _ h=>h) (Or.inl ⟨by rfl,?_⟩) ?_
  rotate_left
  ·intro w0;first|(go_simp;done)|(go_simp;with_reducible rfl)
  go_simp
  refine wpAny_take (i:=4) (v:=?_) rfl (by kernel_rfl) (by kernel_rfl) (by kernel_rfl) (λ_ _ _ h=>h) (Or.inl ⟨by rfl,?_⟩) ?_
  rotate_left
  ·intro w0;first|(go_simp;done)|(go_simp;with_reducible rfl)
  go_simp
  refine wpAny_ready (rs:=[3,5]) (by kernel_rfl) (by simp) ?_;refine AllReady.cons rfl (λK d=>?_) (AllReady.cons rfl (λK d=>?_) AllReady.nil)
  dsimp only[List.getElem_toArray,List.getElem_cons_succ,List.getElem_cons_zero]
  go_simp
  refine d _ _ ?_;refine wpAny_ready (rs:=[5]) (by kernel_rfl) (by simp) ?_;refine AllReady.cons rfl (λK d=>?_) AllReady.nil
  dsimp only[List.getElem_toArray,List.getElem_cons_succ,List.getElem_cons_zero]
  rw[if_pos (by rfl)];refine qbu 97 #[.slice a l.length cap] (by go_simp) m ?_;rintro e c ⟨n,(⟨u,v,k,rfl⟩|⟨k,rfl⟩)⟩
  rotate_left
  ·exact .inr ⟨_,rfl,rfl,g.out.no (by decide) k.out (qa (jcc _ w).drew n)⟩
  dsimp only[List.getElem_toArray,List.getElem_cons_succ,List.getElem_cons_zero]
  rw[if_pos (by rfl)];refine qbu 97 #[.slice a l.length cap] (by go_simp) m ?_;rintro e c ⟨n,(⟨u,v,k,rfl⟩|⟨k,rfl⟩)⟩
  rotate_left
  ·exact .inr ⟨_,rfl,rfl,g.out.no (by decide) k.out (qa (jcc _ w).drew n)⟩
  all_goals
   have o:=qa (jcc _ w).drew n;have J:=(g.out.ck.later o).cell0;have C:=B.out u v c (g.out.ck.later o).pw;refine .inl ⟨_,rfl,?_⟩
   go_simp
   refine d _ _ ?_;refine wpAny_take (i:=6) (v:=?_) rfl (by kernel_rfl) (by kernel_rfl) (by kernel_rfl) (λ_ _ _ h=>h) (Or.inl ⟨by rfl,?_⟩) ?_
   rotate_left
   ·intro w0;first|(go_simp;done)|(go_simp;with_reducible rfl)
   go_simp
   refine wpAny_take (i:=7) (v:=?_) rfl (by kernel_rfl) (by kernel_rfl) (by kernel_rfl) (λ_ _ _ h=>h) (Or.inl ⟨by rfl,?_⟩) ?_
   rotate_left
   ·intro w0;first|(go_simp;done)|(go_simp;with_reducible rfl)
   go_simp
  rotate_left
  refine wpAny_ready (rs:=[3]) (by kernel_rfl) (by simp) ?_;refine AllReady.cons rfl (λK d=>?_) AllReady.nil
  dsimp only[List.getElem_toArray,List.getElem_cons_succ,List.getElem_cons_zero]
  go_simp
  refine d _ _ ?_
  all_goals
   refine wpAny_ready (rs:=[8]) (by kernel_rfl) (by simp) ?_;refine AllReady.cons rfl (λK d=>?_) AllReady.nil
   dsimp only[List.getElem_toArray,List.getElem_cons_succ,List.getElem_cons_zero]
   rw[if_pos (by rfl)];refine qbu _ #[PP b,U u,U v] (by go_simp) C ?_;rintro e w2 ⟨W',er,D,rfl,x⟩;have E:=qda er w2 (g.out.gl2 o x);have y:Hid (∀e p,Bw w2 p->qlx er (qn _) e->jm _ W l w cb mb G e p):=λe p q F=>g.out.yes (by decide) (by exact k.out) o (D.data (by decide)) x q F;refine .inl ⟨_,rfl,?_⟩
   go_simp
   refine d _ _ ?_;refine wpAny_ready (rs:=[9]) (by kernel_rfl) (by simp) ?_;refine AllReady.cons rfl (λK d=>?_) AllReady.nil
   dsimp only[List.getElem_toArray,List.getElem_cons_succ,List.getElem_cons_zero]
   rw[if_pos (by rfl)];refine qbu 66 #[jc er] (by go_simp) E ?_;rintro e p ⟨q,(⟨r,rfl⟩|⟨r,rfl⟩)⟩
   rotate_left
   ·exact .inr ⟨_,rfl,rfl,y.out _ _ q (.inr ⟨r,rfl⟩)⟩
   have H:=y.out _ _ q (.inl ⟨r,rfl⟩);refine .inl ⟨_,rfl,?_⟩
   go_simp
   refine d _ _ ?_;refine wpAny_done (by kernel_rfl) ?_ _
   go_wp2
   go_ret;exact H
theorem ja5 (w:World) (h:vk w cb mb b Gw G W j a cap l):Ca 47 #[PP cb,.slice a l.length cap] w (jm 1 W l w cb mb G):=qtj w h (M:=96) (by decide) λu v c d=>ja6 u v c d h.wi
theorem q92 (w:World) (h:vk w cb mb b Gw G W j a cap l):Ca 54 #[PP cb,.slice a l.length cap] w (jm 8 W l w cb mb G):=qtj w h (M:=106) (by decide) λu v c d=>q9o u v c d h.wi
theorem q8m (w:World) (h:vk w cb mb b Gw G W j a cap l):Ca 58 #[PP cb,.slice a l.length cap] w (jm 12 W l w cb mb G):=qtj w h (M:=112) (by decide) λu v c d=>q9j u v c d
end
end
section
open Go.RowKit
section
variable {cb mb b j cap:Nat} {Gw G:Nat->Prop} {W:WoS} {a:Option Addr} {l:List ByteArray}
theorem q8p (w:World) (h:vk w cb mb b Gw G W j a cap l):Ca 53 #[PP cb,.slice a l.length cap] w (jm 7 W l w cb mb G):=by
 have c:=hd1 h;have o:=qls h.sm w h.gl h.st;go_enter Tryz.func53,Tryz.ntmps53
 go_wp2_with fail
 refine o.mono ?_;rintro e p ⟨d,(⟨u,v,i,rfl⟩|⟨i,rfl⟩)⟩
 ·have y:=(c.out.ck.later d).cell0;have q:=q9z u v p (c.out.ck.later d).pw
  go_wp2_with fail
  refine q.mono ?_;rintro e w2 ⟨W',er,r,rfl,m⟩;have s:=qda er w2 (c.out.gl2 d m);have n:Hid (∀e f,Bw w2 f->qlx er (qn 7) e->jm 7 W l w cb mb G e f):=λe f g t=>c.out.yes (by decide) i.out d (r.data (by decide)) m g t
  go_wp2_with fail
  refine s.mono ?_;rintro e f ⟨g,(⟨k,rfl⟩|⟨k,rfl⟩)⟩
  ·have x:=n.out _ _ g (.inl ⟨k,rfl⟩)
   go_wp2
   go_ret;exact x
  exact⟨rfl,n.out _ _ g (.inr ⟨k,rfl⟩)⟩
 exact⟨rfl,c.out.no (by decide) i.out d⟩
theorem q8k (w:World) (h:vk w cb mb b Gw G W j a cap l):Ca 49 #[PP cb,.slice a l.length cap] w (jm 3 W l w cb mb G):=by
 have c:=hd1 h;have g:=qpc h.sm w h.gl h.st;go_enter Tryz.func49,Tryz.ntmps49
 go_wp2_with fail
 refine g.mono ?_;rintro e i ⟨d,(⟨f,rfl⟩|⟨f,rfl⟩)⟩
 ·have p:=(c.out.ck.later d).cell0;have k:=q71 i (c.out.ck.later d).pw c.out.wi.wf
  go_wp2_with fail
  refine k.mono ?_;rintro e w2 ⟨rfl,W',m,n⟩;have o:jm 3 W l w cb mb G (.returned (.string (bya (qn 3)))) w2:=c.out.yes (ns:=[]) (by decide) f.out d ⟨rfl,m.out.1,rfl⟩ n (jcc _ _) (.inl ⟨rfl,rfl⟩)
  go_wp2
  go_ret;exact o
 exact⟨rfl,c.out.no (by decide) f.out d⟩
end
def qz4 (cb:Nat) (mv:Value) (n c:Int) (w:World) (e:Ending) (w':World):Prop:=
 (((1<=n/\n<=4)/\(0<=c/\c<=6))/\e=.returned (.tuple #[])/\∃b' G',w'.heap[cb]?=some (.cells #[PP b',mv] 57 (0,0))/\PW w' b' G' (qcb n.toNat c.toNat)/\(∀k,G' k->w.heap.size<=k)/\qc (λk=>k=cb) w w')
 \/(¬((1<=n/\n<=4)/\(0<=c/\c<=6))/\e=qc7 2/\Bw w w')
theorem qkq {cb:Nat} {p s:Value} (n c:Int) (w:World) (y:w.heap[cb]?=some (.cells #[p,s] 57 (0,0))) (g:Gl w):
 Ca 20 #[PP cb,U n,U c] w (qz4 cb s n c w):=by
 have z:=(jcs.1 y).1;by_cases h:(1<=n/\n<=4)/\(0<=c/\c<=6)
 ·obtain⟨i,rfl⟩:∃i:Nat,n=i:=⟨n.toNat,by omega⟩;obtain⟨k,rfl⟩:∃k:Nat,c=k:=⟨c.toNat,by omega⟩;have t:=jbc (n:=i) (c:=k) (by omega) (by omega) (by omega) w;have f:=hd3 h y g;go_enter Tryz.func20,Tryz.ntmps20
  go_wp2_with fail
  refine t.mono ?_;rintro e u ⟨rfl,C,D,B,d⟩;have E:=(d.block cb z).trans f.out.2.1;have m:=qda 0 u (f.out.2.2.later d);rw[show jc 0=Value.nilIface from rfl]at m
  go_wp2_with fail
  refine m.mono ?_;rintro e w2 ⟨o,(⟨_,rfl⟩|⟨v,_⟩)⟩
  ·have x:=(o.block cb (jci z d.size)).trans E
   have K:w2.cell? (AD cb 0)=some p:=by rw[Lib.cell_of_heap x];rfl
   have L:=Lib.frozen_of_heap x 0
   have F:Hid (qz4 cb s i k w (.returned (.tuple #[])) (w2.setCell (AD cb 0) (PP w.heap.size))):=by
        have r:=qa d o;refine .inl ⟨f.out.1,rfl,w.heap.size,C,by simp[World.setCell,Array.getElem?_modify,x],?_,B,r.os,r.tape,r.output,by simp[World.setCell];exact r.size,λq H I=>(jce _ _ _ _ I).trans (r.block q H)⟩;rw[Int.toNat_natCast,Int.toNat_natCast];exact(D.later o).kept (λq e=>jce _ _ _ _ (λJ=>by have:=B q e;have:q=cb:=J;omega)) (by simp[World.setCell])
   go_wp2
   go_end0;exact F.out
  exact absurd rfl v
 have t:=q2a h w;have f:=hd2 h g;go_enter Tryz.func20,Tryz.ntmps20
 go_wp2_with fail
 refine t.mono ?_;rintro e u ⟨rfl,d⟩;have m:=qda 2 u (f.out.2.later d)
 generalize jc 2=ev at m
 go_wp2_with fail
 refine m.mono ?_;rintro e w2 ⟨o,(⟨v,_⟩|⟨_,rfl⟩)⟩
 ·exact absurd v (by decide)
 exact⟨rfl,.inr ⟨f.out.1,rfl,qa d o⟩⟩
section
variable {cb mb b j cap:Nat} {Gw G:Nat->Prop} {W:WoS} {a:Option Addr} {l:List ByteArray}
theorem q4x (w:World) (h:vk w cb mb b Gw G W j a cap l):Ca 63 #[PP cb,.slice a l.length cap] w (jm 17 W l w cb mb G):=by
 have c:=hd1 h;have r:=qls h.sm w h.gl h.st;go_enter Tryz.func63,Tryz.ntmps63
 go_wp2_with fail
 refine r.mono ?_;rintro e s ⟨d,(⟨u,v,m,rfl⟩|⟨m,rfl⟩)⟩
 ·have t:=qkq u v s (c.out.ck.later d).box (c.out.gl.later d)
  go_wp2_with fail
  refine t.mono ?_;rintro e w2 (⟨n,rfl,x,q,y,z,o,f⟩|⟨n,rfl,B⟩)
  ·have C:jm 17 W l w cb mb G (.returned (.string (bya (qn 17)))) w2:=by
        have i:=c.out.ck.later d;have lc:=i.ltc;have D:=i.map.lt;refine⟨qcb u.toNat v.toNat,0,qn 17,by unfold qc2;rw[if_neg (by decide),show ju (qqi 17) l=some [u,v]from m.out];exact⟨rfl,by rw[if_pos n];exact⟨rfl,rfl⟩⟩,.inl ⟨rfl,rfl⟩,λk=>k=cb\/k=mb\/q k,⟨x,q,⟨y,i.map.kept (f.block mb D (λe=>i.n1 e.symm)),z,i.n1,λe=>by have:=o cb e;omega,λe=>by have:=o mb e;omega⟩,λ_=>jdl⟩,λk p=>?_,(qc.ofBelow d).trans ⟨f.os,f.tape,f.output,f.size,λk p E=>f.block k p (λe=>E ((c.out.g k).2 (.inl e)))⟩⟩;rcases p with rfl|rfl|e
        ·exact .inl ((c.out.g k).2 (.inl rfl))
        ·exact .inl ((c.out.g k).2 (.inr (.inl rfl)))
        exact .inr (jcn d.size (o k e))
   go_wp2
   go_ret;exact C
  exact⟨rfl,c.out.yes (W':=W) (er:=2) (told:=qn 17) (by decide) m.out d ⟨rfl,by rw[if_neg n];exact⟨rfl,rfl⟩⟩ (vh.same (c.out.ck.later d).pw (jcc _ _)) B (.inr ⟨by decide,rfl⟩)⟩
 exact⟨rfl,c.out.no (by decide) m.out d⟩
end
end
section
open Go.RowKit
section
variable {cb mb b j cap:Nat} {Gw G:Nat->Prop} {W:WoS} {a:Option Addr} {l:List ByteArray}
theorem qu0 {w w':World} (h:vk w cb mb b Gw G W j a cap l) (c:(if l.length=3 then ju 2 (l.take 2)else none)=none) (d:Bw w w'):jm 18 W l w cb mb G (qc7 3) w':=
 ⟨W,3,[],by unfold qc2;rw[if_pos rfl,c];exact⟨rfl,rfl,rfl⟩,.inr ⟨by decide,rfl⟩,h.ck.same h.g d⟩
theorem qvr {r:List ByteArray} (h:r.length=3):∃x y z,r=[x,y,z]:=by
 match r,h with
 |[x,y,z],_=>exact⟨x,y,z,rfl⟩
theorem q6z (w:World) (h:vk w cb mb b Gw G W j a cap l):Ca 64 #[PP cb,.slice a l.length cap] w (jm 18 W l w cb mb G):=by
 by_cases D:l.length=3
 ·obtain⟨x,y,z,rfl⟩:=qvr D;have d:=hd1 h;obtain⟨r,t,rfl,L,M⟩:=h.st.cell 2 z rfl;have T:3<=cap:=h.st.cap
  have N:qfj w (some (AD r t)) cap [x,y]:=⟨by have:=h.st.cap;simp at this ⊢;omega,λq s f=>h.st.cell q s (by
   match q,f with
   |0,f=>exact f
   |1,f=>exact f)⟩
  have E:=qls (l:=[x,y]) (λs F=>h.sm s (by simp at F ⊢;rcases F with rfl|rfl<;>simp)) w h.gl N
  dsimp only[List.length_cons,List.length_nil,Nat.reduceAdd]at E ⊢
  go_enter Tryz.func64,Tryz.ntmps64
  go_wp2_with fail
  refine E.mono ?_;rintro e m ⟨k,(⟨u,v,B,rfl⟩|⟨B,rfl⟩)⟩
  rotate_left
  ·exact⟨rfl,qu0 d.out (by rw[if_pos (show [x,y,z].length=3 from rfl)];exact B.out) k⟩
  have V:m.drew.cell? (AD cb 0)=some (PP b):=(d.out.ck.later k).cell0;have X:m.drew.cell? (AD r (t+2))=some (.string z):=(k.cell (p:=AD r (t+2)) L).trans M;have O:=q48 u v z m.drew ((d.out.ck.later k).pw.later (jcc _ m).drew);have H:=k.drew
  go_wp2
  refine wp_region_any (by kernel_rfl) ?_;change wpAny _ _ _ _ _ _ _ (World.drew _);refine wpAny_take (i:=0) (v:=?_) rfl (by kernel_rfl) (by kernel_rfl) (by kernel_rfl) (λ_ _ _ h=>h) (Or.inl ⟨by rfl,?_⟩) ?_
  rotate_left
  ·intro w0;first|(go_simp;done)|(go_simp;with_reducible rfl)
  go_simp
  refine wpAny_take (i:=1) (v:=?_) rfl (by kernel_rfl) (by kernel_rfl) (by kernel_rfl) (λ_ _ _ h=>h) (Or.inl ⟨by rfl,?_⟩) ?_
  rotate_left
  ·intro w0;first|(go_simp;done)|(go_simp;with_reducible rfl)
  go_simp
  refine wpAny_take (i:=2) (v:=?_) rfl (by kernel_rfl) (by kernel_rfl) (by kernel_rfl) (λ_ _ _ h=>h) (Or.inl ⟨by rfl,?_⟩) ?_
  rotate_left
  ·intro w0;first|(go_simp;done)|(go_simp;with_reducible rfl)
  go_simp
  refine wpAny_take (i:=4) (v:=?_) rfl (by kernel_rfl) (by kernel_rfl) (by kernel_rfl) (λ_ _ _ h=>h) (Or.inl ⟨by rfl,?_⟩) ?_
  rotate_left
  ·intro w0;first|(go_simp;done)|(go_simp;with_reducible rfl)
  go_simp
  refine wpAny_take (i:=5) (v:=?_) rfl (by kernel_rfl) (by kernel_rfl) (by kernel_rfl) (λ_ _ _ h=>h) (Or.inl ⟨by rfl,?_⟩) ?_
  rotate_left
  ·intro w0;first|(go_simp;done)|(go_simp;with_reducible rfl)
  go_simp
  refine wpAny_take (i:=6) (v:=?_) rfl (by kernel_rfl) (by kernel_rfl) (by kernel_rfl) (λ_ _ _ h=>h) (Or.inl ⟨by rfl,?_⟩) ?_
  rotate_left
  ·intro w0;first|(go_simp;done)|(go_simp;with_reducible rfl)
  go_simp
  refine wpAny_take (i:=7) (v:=?_) rfl (by kernel_rfl) (by kernel_rfl) (by kernel_rfl) (λ_ _ _ h=>h) (Or.inl ⟨by rfl,?_⟩) ?_
  rotate_left
  ·intro w0;first|(go_simp;done)|(go_simp;with_reducible rfl)
  go_simp
  refine wpAny_ready (rs:=[3,8]) (by kernel_rfl) (by simp) ?_;refine AllReady.cons rfl (λK c=>?_) (AllReady.cons rfl (λK c=>?_) AllReady.nil)
  dsimp only[List.getElem_toArray,List.getElem_cons_succ,List.getElem_cons_zero]
  go_simp
  refine c _ _ ?_;refine wpAny_ready (rs:=[8]) (by kernel_rfl) (by simp) ?_;refine AllReady.cons rfl (λK c=>?_) AllReady.nil
  dsimp only[List.getElem_toArray,List.getElem_cons_succ,List.getElem_cons_zero]
  go_simp
  refine c _ _ ?_;refine wpAny_take (i:=9) (v:=?_) rfl (by kernel_rfl) (by kernel_rfl) (by kernel_rfl) (λ_ _ _ h=>h) (Or.inl ⟨by rfl,?_⟩) ?_
  rotate_left
  ·intro w0;first|(go_simp;done)|(go_simp;with_reducible rfl)
  go_simp
  rotate_left
  dsimp only[List.getElem_toArray,List.getElem_cons_succ,List.getElem_cons_zero]
  go_simp
  refine c _ _ ?_;refine wpAny_take (i:=9) (v:=?_) rfl (by kernel_rfl) (by kernel_rfl) (by kernel_rfl) (λ_ _ _ h=>h) (Or.inl ⟨by rfl,?_⟩) ?_
  rotate_left
  ·intro w0;first|(go_simp;done)|(go_simp;with_reducible rfl)
  go_simp
  refine wpAny_ready (rs:=[3]) (by kernel_rfl) (by simp) ?_;refine AllReady.cons rfl (λK c=>?_) AllReady.nil
  dsimp only[List.getElem_toArray,List.getElem_cons_succ,List.getElem_cons_zero]
  go_simp
  refine c _ _ ?_
  all_goals
   refine wpAny_ready (rs:=[10]) (by kernel_rfl) (by simp) ?_;refine AllReady.cons rfl (λK c=>?_) AllReady.nil
   dsimp only[List.getElem_toArray,List.getElem_cons_succ,List.getElem_cons_zero]
   rw[if_pos (by rfl)];refine qbu 105 #[PP b,U u,.agg #[U v,.string z,.bool false]] (by go_simp) O ?_;rintro e w2 ⟨W',er,P,rfl,I⟩;have Q:=qda er w2 (d.out.gl2 H I);have J:Hid (∀e n,Bw w2 n->qlx er (qn 18) e->jm 18 W [x,y,z] w cb mb G e n):=λe n o R=>⟨W',er,qn 18,by unfold qc2;rw[if_pos rfl,if_pos (show [x,y,z].length=3 from rfl),show ju 2 (List.take 2 [x,y,z])=some [u,v]from B.out];exact P,R,qe3.after (d.out.ck.op d.out.g H I) o⟩;refine .inl ⟨_,rfl,?_⟩
   go_simp
   refine c _ _ ?_;refine wpAny_ready (rs:=[11]) (by kernel_rfl) (by simp) ?_;refine AllReady.cons rfl (λK c=>?_) AllReady.nil
   dsimp only[List.getElem_toArray,List.getElem_cons_succ,List.getElem_cons_zero]
   rw[if_pos (by rfl)];refine qbu 66 #[jc er] (by go_simp) Q ?_;rintro e n ⟨o,(⟨C,rfl⟩|⟨C,rfl⟩)⟩
   rotate_left
   ·exact .inr ⟨_,rfl,rfl,J.out _ _ o (.inr ⟨C,rfl⟩)⟩
   have S:=J.out _ _ o (.inl ⟨C,rfl⟩);refine .inl ⟨_,rfl,?_⟩
   go_simp
   refine c _ _ ?_;refine wpAny_done (by kernel_rfl) ?_ _
   go_wp2
   go_ret;exact S
 have d:=hd2 h (show l.length≠3 from D)
 have Y:¬(l.length:Int)=3:=by omega
 go_enter Tryz.func64,Tryz.ntmps64
 go_wp2
 exact⟨rfl,qu0 d.out.1 (by rw[if_neg d.out.2]) (jcc _ _)⟩
end
end
section
open Go.RowKit
theorem q70 {s:ByteArray} {v:Int} (h:qbw s=some v):wfI v:=by
 unfold qbw at h;split at h
 ·rename_i x c;split at h
  ·injection h with h;subst h;have:=Lib.parseIntB_bounds c;simp at this;exact⟨by omega,by omega⟩
  cases h
 cases h
variable {r:List Int}
theorem qwd:∀{l:List ByteArray},qb0 l=some r->∀v∈r,wfI v
 |[],r,h=>by simp[qb0]at h;subst h;simp
 |x::l,r,h=>by
  simp only[qb0]at h;cases hx:qbw x with
  |none=>rw[hx]at h;cases h
  |some v=>
   rw[hx]at h;simp only at h;cases hl:qb0 l with
   |none=>rw[hl]at h;cases h
   |some q=>
    rw[hl]at h;injection h with h;subst h;intro y c;rcases jdd.1 c with e|e
    ·rw[e];exact q70 hx
    exact qwd hl y e
theorem q63 {m:Nat} {l:List ByteArray} (h:ju m l=some r):∀v∈r,wfI v:=by
 unfold ju at h;split at h
 ·exact qwd h
 cases h
theorem qnf {key a0 a1 a2 a3:Int} {l:List Hd} (h:∀x∈l,qau x.v=true):(zz key a0 a1 a2 a3 l).1.data.size<=12:=by
 unfold zz;split
 ·cases hl:zn key a0 a1 a2 a3 l with
  |none=>exact jcw _
  |some v=>
   obtain⟨x,c,rfl,_⟩:=qr0 hl;have:=h x c;simp only[qau,jct,decide_eq_true_eq]at this;unfold qjj;simp only;split
   ·exact jcw _
   show x.v.data.size<=12;have:=this.1.2;omega
 exact jcw _
theorem qjc {S:qe} {s:qy} {key:Int} (c:qe9 s) (d:j3 S):(vi S s key).1.size<=12:=by
 unfold vi;split
 ·exact jcw _
 split
 ·rename_i x e;split
  ·exact jcw _
  exact c.ws x (q5a e).2
 show (qbq S key s.s0 s.s1 s.s2 s.s3).1.data.size<=12;unfold qbq;split
 ·exact qnf d.ok
 exact jcw _
def jbt (W:WoS) (k key:Int) (w:World) (e:Ending) (w':World):Prop:=
 ∃d er told,qaa 13 W [k,key] ⟨#[]⟩ W er told/\(er=0->told=[105,115,32]++d.data.toList)/\d.size<=12/\e=.returned (.tuple #[.string d,jc er])/\Bw w w'
theorem q8y {b:Nat} {G:Nat->Prop} {W:WoS} (k key:Int) (o:wfI key) (w:World) (h:PW w b G W) (n:DkI W):Ca 113 #[PP b,U k,U key] w (jbt W k key w):=by
 obtain⟨j,f⟩:=n.pl;by_cases d:ye k W.c
 ·obtain⟨i,rfl,hi,e⟩:=zq d;exact(q7w key (q8f o) w h f.wf hi).mono λ_ _ ⟨g,m⟩=>⟨_,_,_,⟨rfl,by rw[if_pos d];exact⟨rfl,rfl⟩⟩,λ_=>rfl,qjc (n.ses i hi) (f.wf.inv _ (f.wf.at_ i hi)),g,m⟩
 exact(qzt k key w h d).mono λ_ _ ⟨g,m⟩=>⟨⟨#[]⟩,2,[],⟨rfl,by rw[if_neg d];exact⟨rfl,rfl⟩⟩,λe=>(by cases e),jcw _,g,m⟩
section
variable {cb mb b j cap:Nat} {Gw G:Nat->Prop} {W:WoS} {a:Option Addr} {l:List ByteArray}
theorem vk.told {w:World} {i:Nat} {ns:List Int} {er:Int} {told:List UInt8} {w':World} {e:Ending} (h:vk w cb mb b Gw G W j a cap l) (hi:i≠18) (c:ju (qqi i) l=some ns) (d:qaa i W ns ⟨#[]⟩ W er told) (f:Bw w w') (k:qlx er told e):jm i W l w cb mb G e w':=
 ⟨W,er,told,by unfold qc2;rw[if_neg hi,c];exact d.data hi,k,h.ck.same h.g f⟩
theorem q8w (w:World) (h:vk w cb mb b Gw G W j a cap l):Ca 59 #[PP cb,.slice a l.length cap] w (jm 13 W l w cb mb G):=by
 have f:=hd1 h;have k:=λw' s=>qls h.sm w' (h.gl.later (w':=w') s) (h.st.later s);replace k:=k w.drew (jcc _ w).drew;have J:=h.ck.cell0;go_enter Tryz.func59,Tryz.ntmps59
 go_wp2
 refine wp_region_any (by kernel_rfl) ?_;change wpAny _ _ _ _ _ _ _ (World.drew _);refine wpAny_take (i:=0) (v:=?_) rfl (by kernel_rfl) (by kernel_rfl) (by kernel_rfl) (λ_ _ _ h=>h) (Or.inl ⟨by rfl,?_⟩) ?_
 rotate_left
 ·intro w0;first|(go_simp;done)|(go_simp;with_reducible rfl)
 go_simp
 refine wpAny_take (i:=1) (v:=?_) rfl (by kernel_rfl) (by kernel_rfl) (by kernel_rfl) (λ_ _ _ h=>h) (Or.inl ⟨by rfl,?_⟩) ?_
 rotate_left
 ·intro w0;first|(go_simp;done)|(go_simp;with_reducible rfl)
 go_simp
 refine wpAny_take (i:=2) (v:=?_) rfl (by kernel_rfl) (by kernel_rfl) (by kernel_rfl) (λ_ _ _ h=>h) (Or.inl ⟨by rfl,?_⟩) ?_
 rotate_left
 ·intro w0;first|(go_simp;done)|(go_simp;with_reducible rfl)
 go_simp
 refine wpAny_take (i:=4) (v:=?_) rfl (by kernel_rfl) (by kernel_rfl) (by kernel_rfl) (λ_ _ _ h=>h) (Or.inl ⟨by rfl,?_⟩) ?_
 rotate_left
 ·intro w0;first|(go_simp;done)|(go_simp;with_reducible rfl)
 go_simp
 refine wpAny_ready (rs:=[3,5]) (by kernel_rfl) (by simp) ?_;refine AllReady.cons rfl (λK c=>?_) (AllReady.cons rfl (λK c=>?_) AllReady.nil)
 dsimp only[List.getElem_toArray,List.getElem_cons_succ,List.getElem_cons_zero]
 go_simp
 refine c _ _ ?_;refine wpAny_ready (rs:=[5]) (by kernel_rfl) (by simp) ?_;refine AllReady.cons rfl (λK c=>?_) AllReady.nil
 dsimp only[List.getElem_toArray,List.getElem_cons_succ,List.getElem_cons_zero]
 rw[if_pos (by rfl)];refine qbu 97 #[.slice a l.length cap] (by go_simp) k ?_;rintro e t ⟨m,(⟨u,v,g,rfl⟩|⟨g,rfl⟩)⟩
 rotate_left
 ·exact .inr ⟨_,rfl,rfl,f.out.no (by decide) g.out (qa (jcc _ w).drew m)⟩
 dsimp only[List.getElem_toArray,List.getElem_cons_succ,List.getElem_cons_zero]
 rw[if_pos (by rfl)];refine qbu 97 #[.slice a l.length cap] (by go_simp) k ?_;rintro e t ⟨m,(⟨u,v,g,rfl⟩|⟨g,rfl⟩)⟩
 rotate_left
 ·exact .inr ⟨_,rfl,rfl,f.out.no (by decide) g.out (qa (jcc _ w).drew m)⟩
 all_goals
  have q:=qa (jcc _ w).drew m;have L:=(f.out.ck.later q).cell0;have B:=q8y u v (q63 g.out v (by simp)) t (f.out.ck.later q).pw f.out.di;refine .inl ⟨_,rfl,?_⟩
  go_simp
  refine c _ _ ?_;refine wpAny_take (i:=6) (v:=?_) rfl (by kernel_rfl) (by kernel_rfl) (by kernel_rfl) (λ_ _ _ h=>h) (Or.inl ⟨by rfl,?_⟩) ?_
  rotate_left
  ·intro w0;first|(go_simp;done)|(go_simp;with_reducible rfl)
  go_simp
  refine wpAny_take (i:=7) (v:=?_) rfl (by kernel_rfl) (by kernel_rfl) (by kernel_rfl) (λ_ _ _ h=>h) (Or.inl ⟨by rfl,?_⟩) ?_
  rotate_left
  ·intro w0;first|(go_simp;done)|(go_simp;with_reducible rfl)
  go_simp
 rotate_left
 refine wpAny_ready (rs:=[3]) (by kernel_rfl) (by simp) ?_;refine AllReady.cons rfl (λK c=>?_) AllReady.nil
 dsimp only[List.getElem_toArray,List.getElem_cons_succ,List.getElem_cons_zero]
 go_simp
 refine c _ _ ?_
 all_goals
  refine wpAny_ready (rs:=[8]) (by kernel_rfl) (by simp) ?_;refine AllReady.cons rfl (λK c=>?_) AllReady.nil
  dsimp only[List.getElem_toArray,List.getElem_cons_succ,List.getElem_cons_zero]
  rw[if_pos (by rfl)];refine qbu 113 #[PP b,U u,U v] (by go_simp) B ?_;rintro e w2 ⟨d,er,told,C,D,M,rfl,E⟩;have x:=qa q E;have F:=qda er w2 (f.out.gl.later x);have y:Hid (∀e n,Bw w2 n->qlx er told e->jm 13 W l w cb mb G e n):=λe n o H=>f.out.told (by decide) g.out C (qa x o) H;have I:=hd1 D;have N:=λw=>qfi (P:=Tryz.prog) ⟨#[105,115,32]⟩ d (by show 3+d.size<=_;omega) w;refine .inl ⟨_,rfl,?_⟩
  go_simp
  refine c _ _ ?_;refine wpAny_take (i:=9) (v:=?_) rfl (by kernel_rfl) (by kernel_rfl) (by kernel_rfl) (λ_ _ _ h=>h) (Or.inl ⟨by rfl,?_⟩) ?_
  rotate_left
  ·intro w0;first|(go_simp;done)|(go_simp;with_reducible rfl)
  go_simp
  refine wpAny_take (i:=10) (v:=?_) rfl (by kernel_rfl) (by kernel_rfl) (by kernel_rfl) (λ_ _ _ h=>h) (Or.inl ⟨by rfl,?_⟩) ?_
  rotate_left
  ·intro w0;first|(go_simp;done)|(go_simp;with_reducible rfl)
  go_simp
  refine wpAny_take (i:=11) (v:=?_) rfl (by kernel_rfl) (by kernel_rfl) (by kernel_rfl) (λ_ _ _ h=>h) (Or.inl ⟨by rfl,?_⟩) ?_
  rotate_left
  ·intro w0;first|(go_simp;done)|(go_simp;with_reducible rfl)
  go_simp
  refine wpAny_take (i:=12) (v:=?_) rfl (by kernel_rfl) (by kernel_rfl) (by kernel_rfl) (λ_ _ _ h=>h) (Or.inl ⟨by rfl,?_⟩) ?_
  rotate_left
  ·intro w0;first|(go_simp;done)|(go_simp;with_reducible rfl)
  go_simp
  refine wpAny_take (i:=13) (v:=?_) rfl (by kernel_rfl) (by kernel_rfl) (by kernel_rfl) (λ_ _ _ h=>h) (Or.inl ⟨by rfl,?_⟩) ?_
  rotate_left
  ·intro w0;first|(go_simp;done)|(go_simp;with_reducible rfl)
  go_simp
  refine wpAny_done (by kernel_rfl) ?_ _
  go_wp2_with fail
  refine F.mono ?_;rintro e n ⟨o,(⟨p,rfl⟩|⟨p,rfl⟩)⟩
  rotate_left
  ·exact⟨rfl,y.out _ _ o (.inr ⟨p,rfl⟩)⟩
  have z:=y.out _ _ o (.inl ⟨p,rfl⟩);rw[I.out p,<-jz]at z
  go_wp2
  go_ret;exact z
end
end
section
open Go.RowKit
section
variable {cb mb b j cap:Nat} {Gw G:Nat->Prop} {W:WoS} {a:Option Addr} {l:List ByteArray}
theorem qee {w:World} {T:TypeId} (l:List Int):∀(q:Nat) x,l[q]?=some x->(w.alloc (.cells (qec l).toArray T)).cell? (AD w.heap.size (0+q))=some (U x):=λq x c=>by
 rw[Nat.zero_add];exact(qd.new (w:=w) (T:=T) (qec l) rfl).cell q _ (by unfold qec;rw[jcv,c];rfl)
theorem q9x (w:World) (h:vk w cb mb b Gw G W j a cap l):Ca 57 #[PP cb,.slice a l.length cap] w (jm 11 W l w cb mb G):=by
 have d:=hd1 h;have s:=qpc h.sm w h.gl h.st;go_enter Tryz.func57,Tryz.ntmps57
 go_wp2_with fail
 refine s.mono ?_;rintro e c ⟨f,(⟨i,rfl⟩|⟨i,rfl⟩)⟩
 ·have y:=(d.out.ck.later f).cell0;have m:=(d.out.ck.later f).pw.later (jcc _ c).drew;have t:=q81 c.drew m;have u:=q7z c.drew m;have n:Bw w ((c.alloc (.cells #[U W.net.length,U W.lost] 3)).drew):=(boxed f _).drew
  have p:=qb1 (b:=c.heap.size) (o:=0) (cap:=2) (l:=[(W.net.length:Int),W.lost]) (by simp) (by simp) (λx q=>by
   simp at q;rcases q with rfl|rfl
   ·have:=d.out.wi.wf.net;exact⟨by omega,by omega⟩
   exact d.out.di.lost) ((c.alloc (.cells #[U W.net.length,U W.lost] 3)).drew) (d.out.gl.later n) (by simp) (qee (w:=c) (T:=3) [(W.net.length:Int),W.lost])
  have v:Hid (∀g,Below ((c.alloc (.cells #[U W.net.length,U W.lost] 3)).drew).heap.size ((c.alloc (.cells #[U W.net.length,U W.lost] 3)).drew) g->jm 11 W l w cb mb G (.returned (.string (bya (qv [(W.net.length:Int),W.lost])))) g):=λg k=>d.out.told (by decide) i.out ⟨rfl,rfl,rfl⟩ (qa n k) (.inl ⟨rfl,rfl⟩)
  dsimp only[List.length_cons,List.length_nil,Nat.reduceAdd]at p
  go_wp2
  go_region_with (first|(r 110;refine t.mono ?_;rintro e w2 ⟨rfl,rfl⟩)|(r 111;refine u.mono ?_;rintro e w2 ⟨rfl,rfl⟩)|(r 102;refine p.mono ?_;rintro e g ⟨rfl,k⟩))
  all_goals
   go_wp2
   go_ret;exact v.out _ k
 exact⟨rfl,d.out.no (by decide) i.out f⟩
end
end
section
open Go.RowKit
structure jan (W:WoS) (k at_ p0 p1 p2 p3 s0 s1 s2 s3:Int) (op:Bool) (er:Int):Prop where
 cmd:qaa 4 W [k] ⟨#[]⟩ W er (if er=0 then qv [at_]++[44,32]++qv [p0,p1,p2,p3]++if op=true then [44,32]++qv [s0,s1,s2,s3]else []else [])
 wf:∀x∈[at_,p0,p1,p2,p3,s0,s1,s2,s3],wfI x
theorem j1 {x:Int} (h:qag x):wfI x:=⟨by have:=h.1;omega,by have:=h.2;omega⟩
theorem qq2 {b:Nat} {G:Nat->Prop} {W:WoS} (k:Int) (m:DkI W):∃at_ p0 p1 p2 p3 s0 s1 s2 s3 n er,jan W k at_ p0 p1 p2 p3 s0 s1 s2 s3 n er/\∀w,PW w b G W->Ca 101 #[PP b,U k] w (Rn (.tuple #[U at_,.agg #[U p0,U p1,U p2,U p3],.agg #[U s0,U s1,U s2,U s3],.bool n,jc er]) w):=by
 obtain⟨j,o⟩:=m.pl;by_cases g:ye k W.c
 ·obtain⟨i,rfl,hi,e⟩:=zq g;have d:=m.ses i hi;have p:=o.wf.at_ i hi;have q:=o.wf.n4;refine⟨_,_,_,_,_,_,_,_,_,_,0,⟨⟨rfl,by rw[if_pos g];exact⟨rfl,rfl⟩⟩,λx f=>?_⟩,λw h=>q26 w h hi⟩;simp only[jdd,List.not_mem_nil,or_false]at f;rcases f with rfl|rfl|rfl|rfl|rfl|rfl|rfl|rfl|rfl
  ·exact⟨by omega,by omega⟩
  ·exact j1 d.p0
  ·exact j1 d.p1
  ·exact j1 d.p2
  ·exact j1 d.p3
  ·exact j1 d.s0
  ·exact j1 d.s1
  ·exact j1 d.s2
  exact j1 d.s3
 refine⟨0,0,0,0,0,0,0,0,0,false,2,⟨⟨rfl,by rw[if_neg g];exact⟨rfl,rfl⟩⟩,λx f=>?_⟩,λw h=>qtc k w h g⟩;simp at f;subst f;exact⟨by decide,by decide⟩
section
variable {cb mb b j cap:Nat} {Gw G:Nat->Prop} {W:WoS} {a:Option Addr} {l:List ByteArray}
theorem q23 (w:World) (h:vk w cb mb b Gw G W j a cap l) (c:ju 1 l=none):Ca 50 #[PP cb,.slice a l.length cap] w (jm 4 W l w cb mb G):=by
 have g:=hd1 h
 have i:Hid (∀w',Bw w w'->Ca 95 #[.slice a l.length cap] w' λe w2=>e=qc7 3/\Bw w' w2):=λw' d=>(qi1 h.sm w' (h.gl.later d) (h.st.later d)).mono λe w2 ⟨k,m⟩=>by
  rcases m with ⟨v,n,_⟩|⟨_,p⟩
  ·rw[n.out]at c;cases c
  exact⟨p,k⟩
 have f:=h.ck.cell0;have q:=hd1 c;have t:=λo=>cell_later (boxed (jcc _ w) o) f;have u:=λo r=>cell_later (boxed (boxed (jcc _ w) o) r) f;clear h c;go_enter Tryz.func50,Tryz.ntmps50
 go_wp2
 go_region_dies
 all_goals
  refine(i.out _ (by repeat (first|(with_reducible exact jcc _ _)|(with_reducible refine boxed ?_ _)|(with_reducible refine jc6 ?_)))).mono ?_;rintro e x ⟨rfl,s⟩;exact⟨rfl,g.out.no (by decide) q.out (qa (by repeat (first|(with_reducible exact jcc _ _)|(with_reducible refine boxed ?_ _)|(with_reducible refine jc6 ?_))) s)⟩
end
end
section
open Go.RowKit
theorem zo (l:List UInt8):(bya l).size=l.length:=by simp[ByteArray.size]
theorem qm2 {w:World} {b:Nat} {a0 a1 a2 a3:Int} (h:qo w b a0 a1 a2 a3):∀(q:Nat) x,[a0,a1,a2,a3][q]?=some x->w.cell? (AD b (0+q))=some (U x)
 |0,x,hx=>by simp at hx;subst hx;exact h.c0
 |1,x,hx=>by simp at hx;subst hx;exact h.c1
 |2,x,hx=>by simp at hx;subst hx;exact h.c2
 |3,x,hx=>by simp at hx;subst hx;exact h.c3
 |q+4,x,hx=>by simp at hx
end
section
open Go.RowKit
section
variable {cb mb b j cap:Nat} {Gw G:Nat->Prop} {W:WoS} {a:Option Addr} {l:List ByteArray}
theorem qys (w:World) (h:vk w cb mb b Gw G W j a cap l) {r:List Int} (f:ju 1 l=some r):Ca 50 #[PP cb,.slice a l.length cap] w (jm 4 W l w cb mb G):=by
 have k:Hid (vk w cb mb b Gw G W j a cap l):=h
 obtain⟨v,rfl⟩:∃v,r=[v]:=by
  unfold ju at f;split at f
  ·rename_i q;exact List.length_eq_one_iff.1 ((qbb f).trans q)
  cases f
 have N1:Hid (∀w',Bw w w'->Ca 95 #[.slice a l.length cap] w' λe w2=>e=.returned (U v)/\Bw w' w2):=λw' m=>(qi1 h.sm w' (h.gl.later m) (h.st.later m)).mono λe w2 ⟨C,g⟩=>by
  rcases g with ⟨u,I,he⟩|⟨I,_⟩
  ·have:=I.out;rw[f]at this;injection this with this;injection this with this;rw[this];exact⟨he,C⟩
  have:=I.out;rw[f]at this;cases this
 obtain⟨at_,p0,p1,p2,p3,s0,s1,s2,s3,D,er,HCli,OP0⟩:=qq2 (b:=b) (G:=Gw) v h.di;have OP:Hid (∀w',Bw w w'->Ca 101 #[PP b,U v] w' λe w2=>e=.returned (.tuple #[U at_,.agg #[U p0,U p1,U p2,U p3],.agg #[U s0,U s1,U s2,U s3],.bool D,jc er])/\Bw w' w2):=λw' m=>OP0 w' (h.ck.later m).pw;have E:Hid (jan W v at_ p0 p1 p2 p3 s0 s1 s2 s3 D er/\ju 1 l=some [v]):=⟨HCli,f⟩;have c0:=h.ck.cell0;have X0:=λ(w':World) (h:Bw w w')=>cell_later h c0;go_enter Tryz.func50,Tryz.ntmps50
 go_wp2
 go_cut [5,6,7,8,9] (λt5 t6 t7 t8 t9 J=>∃n p:Nat,t5=U at_/\t6=.pointer (PT n)/\t7=.pointer (PT p)/\t8=.bool D/\t9=jc er/\Bw w J/\qo J n p0 p1 p2 p3/\qo J p s0 s1 s2 s3)
 case first=>
  go_region_held3 (λw'=>Bw w w') ((repeat (first|(with_reducible assumption)|(with_reducible refine boxed ?_ _)|(with_reducible refine jc6 ?_)|(with_reducible refine jdz ?_ (by first|(simp;done)|(simp;omega)) _)|(with_reducible exact jcc _ _))))
   (first|(go_at_call 95;refine(N1.out _ (by with_reducible assumption)).mono ?_;rintro e M ⟨rfl,s⟩;have hS:Bw w M:=qa (by with_reducible assumption) s;have hla:=hS.size;obtain⟨hc1,hf1⟩:=qdb s;have hz1:=blt s;have n1:=bne s;have m1:=jbf s)|(go_at_call 101;refine(OP.out _ (by with_reducible assumption)).mono ?_;rintro e N ⟨rfl,t⟩;have hSb:Bw w N:=qa (by with_reducible assumption) t;have hlb:=hSb.size;have hab:Bw M N:=(by first|exact t|exact qa (boxed (jcc _ _) _) t|exact qa (boxed (boxed (jcc _ _) _) _) t);have O:=qa s hab;obtain⟨hc2,hf2⟩:=qdb t;obtain⟨hc3,hf3⟩:=qdb O;have hz2:=blt t;have hz3:=blt O))
  all_goals
   go_wp2
   go_meet
   case rel=>
        refine⟨_,_,rfl,rfl,rfl,rfl,rfl,by assumption,?_,?_⟩
        ·(repeat (first|(with_reducible refine qo.newest ?_;(first|rfl|(simp;done)))|(with_reducible refine qo.boxed ?_ _)|(with_reducible refine qo.set (a0:=0) (a1:=0) (a2:=0) (a3:=0) ?_)|(with_reducible refine qo.far4 ?_ ?_;rotate_left;(first|(simp;done)|(simp;omega)|omega))));all_goals (constructor<;>go_simp)
        (repeat (first|(with_reducible refine qo.newest ?_;(first|rfl|(simp;done)))|(with_reducible refine qo.boxed ?_ _)|(with_reducible refine qo.set (a0:=0) (a1:=0) (a2:=0) (a3:=0) ?_)|(with_reducible refine qo.far4 ?_ ?_;rotate_left;(first|(simp;done)|(simp;omega)|omega))));all_goals (constructor<;>go_simp)
 obtain⟨n,p,rfl,rfl,rfl,rfl,rfl,Q,R6,R7⟩:=hcut;have y:Hid (Bw w wc/\qo wc n p0 p1 p2 p3/\qo wc p s0 s1 s2 s3):=⟨Q,R6,R7⟩;have MU:=qda er wc (k.out.gl.later Q)
 go_wp2_with fail
 refine MU.mono ?_;rintro e d ⟨z,(⟨F,rfl⟩|⟨F,rfl⟩)⟩
 rotate_left
 ·exact⟨rfl,k.out.told (by decide) E.out.2 E.out.1.cmd (qa y.out.1 z) (.inr ⟨F,rfl⟩)⟩
 have R:=qa y.out.1 z;have B:=E.out.1.wf;have S:Bw w ((d.alloc (.cells #[U at_] 3)).drew):=(boxed R _).drew;have V:=qb1 (b:=d.heap.size) (o:=0) (cap:=1) (l:=[at_]) (by simp) (by simp) (λx c=>B x (by simp at c;simp[c])) ((d.alloc (.cells #[U at_] 3)).drew) (k.out.gl.later S) (by simp) (qee (w:=d) (T:=3) [at_])
 dsimp only[List.length_cons,List.length_nil,Nat.reduceAdd]at V
 have BLP:Hid (∀w',Bw w w'->Bw d w'->Ca 102 #[.slice (PT n) 4 4] w' λe w2=>e=.returned (.string (bya (qv [p0,p1,p2,p3])))/\Bw w' w2):=λw' C g=>qb1 (b:=n) (o:=0) (cap:=4) (l:=[p0,p1,p2,p3]) (by simp) (by simp) (λx c=>B x (by simp at c ⊢;rcases c with e|e|e|e<;>simp[e])) w' (k.out.gl.later C) (jci (y.out.2.1.later z).lt g.size) (qm2 ((y.out.2.1.later z).later g));have BLS:Hid (∀w',Bw w w'->Bw d w'->Ca 102 #[.slice (PT p) 4 4] w' λe w2=>e=.returned (.string (bya (qv [s0,s1,s2,s3])))/\Bw w' w2):=λw' C g=>qb1 (b:=p) (o:=0) (cap:=4) (l:=[s0,s1,s2,s3]) (by simp) (by simp) (λx c=>B x (by simp at c ⊢;rcases c with e|e|e|e<;>simp[e])) w' (k.out.gl.later C) (jci (y.out.2.2.later z).lt g.size) (qm2 ((y.out.2.2.later z).later g))
 have l1:(qv [at_]).length<=22:=by have:=ze (l:=[at_]) (λx c=>B x (by simp at c;simp[c]));simpa using this
 have l2:(qv [p0,p1,p2,p3]).length<=88:=by have:=ze (l:=[p0,p1,p2,p3]) (λx c=>B x (by simp at c ⊢;rcases c with e|e|e|e<;>simp[e]));simpa using this
 have l3:(qv [s0,s1,s2,s3]).length<=88:=by have:=ze (l:=[s0,s1,s2,s3]) (λx c=>B x (by simp at c ⊢;rcases c with e|e|e|e<;>simp[e]));simpa using this
 have A1:=λw=>qfi (P:=Tryz.prog) (bya (qv [at_])) ⟨#[44,32]⟩ (by simp[zo];omega) w;have A2:=λw=>qfi (P:=Tryz.prog) (bya (qv [at_])++⟨#[44,32]⟩) (bya (qv [p0,p1,p2,p3])) (by simp[zo];omega) w;have A3:=λw=>qfi (P:=Tryz.prog) ⟨#[44,32]⟩ (bya (qv [s0,s1,s2,s3])) (by simp[zo];omega) w;have A4:=λw=>qfi (P:=Tryz.prog) (bya (qv [at_])++⟨#[44,32]⟩++bya (qv [p0,p1,p2,p3])) (⟨#[44,32]⟩++bya (qv [s0,s1,s2,s3])) (by simp[zo];omega) w;have X:Hid (∀w',Bw w w'->jm 4 W l w cb mb G (.returned (.string (bya (qv [at_]++[44,32]++qv [p0,p1,p2,p3]++if D=true then [44,32]++qv [s0,s1,s2,s3]else [])))) w'):=λw' m=>k.out.told (by decide) E.out.2 E.out.1.cmd m (.inl ⟨F,by rw[if_pos F]⟩);have HX3:Hid (Bw w d):=R;have hw3:Bw d ((d.alloc (.cells #[U at_] 3)).drew):=(boxed (jcc _ d) _).drew
 go_wp2
 go_region_with (first|(go_at_call 102;(with_reducible refine V.mono ?_);rintro e K ⟨rfl,Y⟩;have Z:Bw w K:=qa S Y;have aa:Bw d K:=qa hw3 Y;have BL2:=BLP.out K Z aa)|(go_at_call 102;(with_reducible refine BL2.mono ?_);rintro e H ⟨rfl,ab⟩;have L:Bw w H:=qa Z ab;have hb53:Bw d H:=qa aa ab))
 all_goals
  cases D
  ·have i:=X.out H L;rw[if_neg (by simp)]at i
   rw[show bya (qv [at_]++[44,32]++qv [p0,p1,p2,p3]++[])=bya (qv [at_])++⟨#[44,32]⟩++bya (qv [p0,p1,p2,p3]) by
        rw[show (⟨#[44,32]⟩:ByteArray)=bya [44,32]from rfl,jz,jz];simp]at i
   go_wp2
   go_ret;exact i
  have BL3:=BLS.out H L hb53
  go_wp2_with fail
  refine BL3.mono ?_;rintro e w6 ⟨rfl,hb6⟩;have i:=X.out w6 (qa L hb6);rw[if_pos (by trivial)]at i
  rw[show bya (qv [at_]++[44,32]++qv [p0,p1,p2,p3]++([44,32]++qv [s0,s1,s2,s3]))=bya (qv [at_])++⟨#[44,32]⟩++bya (qv [p0,p1,p2,p3])++(⟨#[44,32]⟩++bya (qv [s0,s1,s2,s3])) by
   rw[show (⟨#[44,32]⟩:ByteArray)=bya [44,32]from rfl,jz,jz,jz,jz]]at i
  go_wp2
  go_ret;exact i
theorem q3r (w:World) (h:vk w cb mb b Gw G W j a cap l):Ca 50 #[PP cb,.slice a l.length cap] w (jm 4 W l w cb mb G):=by
 cases hn:ju 1 l with
 |none=>exact q23 w h hn
 |some r=>exact qys w h hn
end
end
section
open Go.RowKit
structure qhm (w:World) (b:Nat) (vs:List Value):Prop where
 cell:∀j v,vs[j]?=some v->w.cell? (AD b j)=some v
 lt:b<w.heap.size
variable {w w':World} {b:Nat} {vs:List Value}
theorem qhm.kept (h:qhm w b vs) (e:w'.heap[b]?=w.heap[b]?) (c:w.heap.size<=w'.heap.size):qhm w' b vs:=
 ⟨λj v d=>by rw[jch (w:=w) e];exact h.cell j v d,jci h.lt c⟩
theorem qhm.later (h:qhm w b vs) (c:Bw w w'):qhm w' b vs:=h.kept (c.block b h.lt) c.size
theorem qhm.far (h:qhm w b vs) (p:Addr) (u:Value) (c:p.block≠b):qhm (w.setCell p u) b vs:=h.kept (jce _ _ _ _ (Ne.symm c)) (by simp[World.setCell])
theorem qhm.boxed (h:qhm w b vs) (o:Obj):qhm (w.alloc o) b vs:=h.kept (jdg _ _ _ h.lt) (by simp)
theorem qhm.drew (h:qhm w b vs):qhm w.drew b vs:=h.kept rfl (jcd _)
structure jbx (W:WoS) (k a0 a1 a2 a3 wn vn er:Int) (tx:List ByteArray):Prop where
 cmd:qaa 14 W [k] ⟨#[]⟩ W er (if er=0 then qv [a0,a1,a2,a3]++[44,32]++qv [wn,vn]++[44,32]++Lib.join (tx.map (·.data.toList)) [32]else [])
 wf:∀x∈[a0,a1,a2,a3,wn,vn],wfI x
 tl:tx.length=8
 ts:∀x∈tx,x.size<=13
def jae (w w':World) (tx:List ByteArray) (v:Value):Prop:=∃tb tc,v=.slice (PT tb) 8 tc/\8<=tc/\qhm w' tb (tx.map Value.string)/\w.heap.size<=tb
theorem qno {a0 a1 a2 a3:Int} {l:List Hd} {key:Int} (h:∀x∈l,qau x.v=true):(qdf a0 a1 a2 a3 l key).size<=13:=by
 unfold qdf;split
 ·have:=qnf (key:=key) (a0:=a0) (a1:=a1) (a2:=a2) (a3:=a3) h;rw[jc4];show 1+_<=13;omega
 exact jcw _
theorem q0p {G:Nat->Prop} {W:WoS} (k:Int) (B:DkI W):∃a0 a1 a2 a3 r s er t,jbx W k a0 a1 a2 a3 r s er t/\∀w,PW w b G W->Ca 114 #[PP b,U k] w λe w'=>∃v,e=.returned (.tuple #[.agg #[U a0,U a1,U a2,U a3],U r,v,U s,jc er])/\Hid (er=0->jae w w' t v)/\Bw w w':=by
 obtain⟨j,o⟩:=B.pl;by_cases m:ye k W.n
 ·obtain⟨i,rfl,hi,e⟩:=zq m;have d:=o.wf.inv i hi;have L:=o.wf.wt i hi;have M:=d.len;have N:=d.log;refine⟨_,_,_,_,_,_,0,(List.range 8).map (λ(q:Nat)=>qdf (W.S i).a0 (W.S i).a1 (W.S i).a2 (W.S i).a3 (W.S i).l q),⟨⟨rfl,by rw[if_pos m,if_pos rfl];exact⟨by unfold qmb qc0;rw[List.map_map];rfl,rfl⟩⟩,λx c=>?_,by simp,λx c=>?_⟩,λw h=>(jab w h o.wf hi).mono λe w' ⟨v,p,f,C⟩=>⟨v,p,λ_=>?_,C⟩⟩
  ·simp only[jdd,List.not_mem_nil,or_false]at c;rcases c with rfl|rfl|rfl|rfl|rfl|rfl
   ·exact j1 d.a0
   ·exact j1 d.a1
   ·exact j1 d.a2
   ·exact j1 d.a3
   ·exact⟨by omega,by omega⟩
   exact⟨by omega,by omega⟩
  ·obtain⟨q,_,rfl⟩:=jcz.1 c;exact qno d.ok
  obtain⟨u,z,rfl,D,E⟩:=f.form (by decide);have F:=f.cells (g:=u) rfl
  have H:8<=z:=by
   rcases f.2 with ⟨h,_⟩|⟨g',O,cur,I,_,_,J,_⟩
   ·cases h
   cases I;exact J
  refine⟨u,z,rfl,H,⟨λq y A=>?_,E⟩,D⟩;rw[List.map_map]at A;have:=F q y A;rcases Nat.eq_zero_or_pos q with rfl|K
  ·simpa[Addr.add]using this
  simpa[Addr.add,Nat.ne_of_gt K]using this
 refine⟨0,0,0,0,0,0,2,List.replicate 8 ⟨#[]⟩,⟨⟨rfl,by rw[if_neg m];exact⟨rfl,rfl⟩⟩,λx c=>?_,rfl,λx c=>?_⟩,λw h=>(qxw k w h m).mono λe w' ⟨p,f⟩=>⟨_,p,λe=>(by cases e),f⟩⟩
 ·simp at c;subst c;exact⟨by decide,by decide⟩
 rw[(List.mem_replicate.1 c).2];decide
section
variable {cb mb b j cap:Nat} {Gw G:Nat->Prop} {W:WoS} {a:Option Addr} {l:List ByteArray}
theorem q8r (w:World) (h:vk w cb mb b Gw G W j a cap l) (c:ju 1 l=none):Ca 60 #[PP cb,.slice a l.length cap] w (jm 14 W l w cb mb G):=by
 have f:=hd1 h
 have g:Hid (∀w',Bw w w'->Ca 95 #[.slice a l.length cap] w' λe w2=>e=qc7 3/\Bw w' w2):=λw' d=>(qi1 h.sm w' (h.gl.later d) (h.st.later d)).mono λe w2 ⟨i,k⟩=>by
  rcases k with ⟨v,m,_⟩|⟨_,n⟩
  ·rw[m.out]at c;cases c
  exact⟨n,i⟩
 have p:=h.ck.cell0;have q:=hd1 c;have s:=λo=>cell_later (boxed (jcc _ w) o) p;go_enter Tryz.func60,Tryz.ntmps60
 go_wp2
 go_region_dies
 all_goals
  refine(g.out _ (by repeat (first|(with_reducible exact jcc _ _)|(with_reducible refine boxed ?_ _)|(with_reducible refine jc6 ?_)))).mono ?_;rintro e t ⟨rfl,r⟩;exact⟨rfl,f.out.no (by decide) q.out (qa (by repeat (first|(with_reducible exact jcc _ _)|(with_reducible refine boxed ?_ _)|(with_reducible refine jc6 ?_))) r)⟩
end
end
section
open Go.RowKit
section
variable {cb mb b j cap:Nat} {Gw G:Nat->Prop} {W:WoS} {a:Option Addr} {l:List ByteArray}
theorem q65 (w:World) (h:vk w cb mb b Gw G W j a cap l) {r:List Int} (k:ju 1 l=some r):Ca 60 #[PP cb,.slice a l.length cap] w (jm 14 W l w cb mb G):=by
 have z:Hid (vk w cb mb b Gw G W j a cap l):=h
 obtain⟨v,rfl⟩:∃v,r=[v]:=by
  unfold ju at k;split at k
  ·rename_i q;exact List.length_eq_one_iff.1 ((qbb k).trans q)
  cases k
 have N1:Hid (∀w',Bw w w'->Ca 95 #[.slice a l.length cap] w' λe w2=>e=.returned (U v)/\Bw w' w2):=λw' t=>(qi1 h.sm w' (h.gl.later t) (h.st.later t)).mono λe w2 ⟨h1,B⟩=>by
  rcases B with ⟨u,L,he⟩|⟨L,_⟩
  ·have:=L.out;rw[k]at this;injection this with this;injection this with this;rw[this];exact⟨he,h1⟩
  have:=L.out;rw[k]at this;cases this
 obtain⟨a0,a1,a2,a3,c,d,er,g,HSi,OP0⟩:=q0p (b:=b) (G:=Gw) v h.di;have OP:Hid (∀w',Bw w w'->Ca 114 #[PP b,U v] w' λe w2=>∃v,e=.returned (.tuple #[.agg #[U a0,U a1,U a2,U a3],U c,v,U d,jc er])/\Hid (er=0->jae w' w2 g v)/\Bw w' w2):=λw' t=>OP0 w' (h.ck.later t).pw;have i:Hid (jbx W v a0 a1 a2 a3 c d er g/\ju 1 l=some [v]):=⟨HSi,k⟩;have c0:=h.ck.cell0;have X0:=λ(w':World) (h:Bw w w')=>cell_later h c0;go_enter Tryz.func60,Tryz.ntmps60
 go_wp2
 go_cut [5,6,7,8,9] (λt5 t6 t7 t8 t9 M=>∃C:Nat,t5=.pointer (PT C)/\t6=U c/\t8=U d/\t9=jc er/\Bw w M/\qo M C a0 a1 a2 a3/\Hid (er=0->∃m n,t7=.slice (PT m) 8 n/\8<=n/\qhm M m (g.map Value.string)))
 case first=>
  go_region_held3 (λw'=>Bw w w') ((repeat (first|(with_reducible assumption)|(with_reducible refine boxed ?_ _)|(with_reducible refine jc6 ?_)|(with_reducible refine jdz ?_ (by first|(simp;done)|(simp;omega)) _)|(with_reducible exact jcc _ _))))
   (first|(go_at_call 95;refine(N1.out _ (by with_reducible assumption)).mono ?_;rintro e O ⟨rfl,p⟩;have hS:Bw w O:=qa (by with_reducible assumption) p;have hla:=hS.size;obtain⟨hc1,hf1⟩:=qdb p;have hz1:=blt p;have n1:=bne p;have m1:=jbf p)|(go_at_call 114;refine(OP.out _ (by with_reducible assumption)).mono ?_;rintro e Q ⟨v7,rfl,hT,D⟩;have hSb:Bw w Q:=qa (by with_reducible assumption) D;have hlb:=hSb.size;have hab:Bw O Q:=(by first|exact D|exact qa (boxed (jcc _ _) _) D);have R:=qa p hab;obtain⟨hc2,hf2⟩:=qdb D;obtain⟨hc3,hf3⟩:=qdb R;have hz2:=blt D;have hz3:=blt R))
  all_goals
   go_wp2
   go_meet
   case rel=>
        refine⟨_,rfl,rfl,rfl,rfl,by assumption,?_,?_⟩
        ·(repeat (first|(with_reducible refine qo.newest ?_;(first|rfl|(simp;done)))|(with_reducible refine qo.boxed ?_ _)|(with_reducible refine qo.set (a0:=0) (a1:=0) (a2:=0) (a3:=0) ?_)|(with_reducible refine qo.far4 ?_ ?_;rotate_left;(first|(simp;done)|(simp;omega)|omega))));all_goals (constructor<;>go_simp)
        intro s;obtain⟨m,n,e1,e2,S,e4⟩:=hT.out s;have e5:=S.lt;have q1:=p.size
        try simp at e4
        try simp at q1
        refine⟨m,n,e1,e2,?_⟩
        repeat (first|(with_reducible exact S)|(with_reducible refine qhm.boxed ?_ _)|(with_reducible refine qhm.drew ?_)|(with_reducible refine qhm.far ?_ _ _ ?_;rotate_left;(first|(simp;done)|(simp;omega)|omega)))
 obtain⟨C,rfl,rfl,rfl,rfl,V,R5,HT⟩:=hcut;have I:Hid (Bw w wc/\qo wc C a0 a1 a2 a3):=⟨V,R5⟩;have MU:=qda er wc (z.out.gl.later V)
 go_wp2_with fail
 refine MU.mono ?_;rintro e E ⟨F,(⟨s,rfl⟩|⟨s,rfl⟩)⟩
 rotate_left
 ·exact⟨rfl,z.out.told (by decide) i.out.2 i.out.1.cmd (qa I.out.1 F) (.inr ⟨s,rfl⟩)⟩
 obtain⟨m,n,rfl,h8,hR⟩:=HT.out s;have N:=qa I.out.1 F;have K:=i.out.1.wf;have X:=qb1 (b:=C) (o:=0) (cap:=4) (l:=[a0,a1,a2,a3]) (by simp) (by simp) (λx f=>K x (by simp at f ⊢;rcases f with e|e|e|e<;>simp[e])) E (z.out.gl.later N) (I.out.2.later F).lt (qm2 (I.out.2.later F));have BLB:Hid (∀w',Bw E w'->Ca 102 #[.slice (PT w'.heap.size) 2 2] (w'.alloc (.cells #[U c,U d] 3)) λe w2=>e=.returned (.string (bya (qv [c,d])))/\Below (w'.alloc (.cells #[U c,U d] 3)).heap.size (w'.alloc (.cells #[U c,U d] 3)) w2):=λw' B=>qb1 (b:=w'.heap.size) (o:=0) (cap:=2) (l:=[c,d]) (by simp) (by simp) (λx f=>K x (by simp at f ⊢;rcases f with e|e<;>simp[e])) _ (z.out.gl.later (boxed (qa N B) _)) (by simp) (qee (w:=w') (T:=3) [c,d])
 have JN:Hid (∀w',Bw E w'->Ca 42 #[.slice (PT m) 8 n,.string ⟨#[32]⟩] w' λe w2=>e=.returned (.string (bya (Lib.join (g.map (·.data.toList)) [32])))/\Bw w' w2):=λw' B=>by
  have Y:=(hR.later F).later B
  have J:=jd1 m 0 n g ⟨#[32]⟩ w' (λq y H=>by rw[Nat.zero_add];exact Y.cell q _ (by rw[jcv,H];rfl)) Y.lt (by rw[i.out.1.tl];decide) (by rw[i.out.1.tl];exact h8) (by
   have:=qgl 13 (g.map (·.data.toList)) (λy H=>by obtain⟨x,f,rfl⟩:=jcz.1 H;exact i.out.1.ts x f);rw[jdh,i.out.1.tl]at this
   exact jcn this (by decide))
  rw[i.out.1.tl]at J;exact J
 have l1:(qv [a0,a1,a2,a3]).length<=88:=by have:=ze (l:=[a0,a1,a2,a3]) (λx f=>K x (by simp at f ⊢;rcases f with e|e|e|e<;>simp[e]));simpa using this
 have l2:(qv [c,d]).length<=44:=by have:=ze (l:=[c,d]) (λx f=>K x (by simp at f ⊢;rcases f with e|e<;>simp[e]));simpa using this
 have l3:(Lib.join (g.map (·.data.toList)) [32]).length<=112:=by
  have:=qgl 13 (g.map (·.data.toList)) (λy H=>by obtain⟨x,f,rfl⟩:=jcz.1 H;exact i.out.1.ts x f);rw[jdh,i.out.1.tl]at this;exact this
 have A1:=λw=>qfi (P:=Tryz.prog) (bya (qv [a0,a1,a2,a3])) ⟨#[44,32]⟩ (by simp[zo];omega) w;have A2:=λw=>qfi (P:=Tryz.prog) (bya (qv [a0,a1,a2,a3])++⟨#[44,32]⟩) (bya (qv [c,d])) (by simp[zo];omega) w;have A3:=λw=>qfi (P:=Tryz.prog) (bya (qv [a0,a1,a2,a3])++⟨#[44,32]⟩++bya (qv [c,d])) ⟨#[44,32]⟩ (by simp[zo];omega) w;have A4:=λw=>qfi (P:=Tryz.prog) (bya (qv [a0,a1,a2,a3])++⟨#[44,32]⟩++bya (qv [c,d])++⟨#[44,32]⟩) (bya (Lib.join (g.map (·.data.toList)) [32])) (by simp[zo];omega) w;have HF:Hid (∀w',Bw w w'->jm 14 W l w cb mb G (.returned (.string (bya (qv [a0,a1,a2,a3]++[44,32]++qv [c,d]++[44,32]++Lib.join (g.map (·.data.toList)) [32])))) w'):=λw' t=>z.out.told (by decide) i.out.2 i.out.1.cmd t (.inl ⟨s,by rw[if_pos s]⟩);have HX3:Hid (Bw w E):=N
 dsimp only[List.length_cons,List.length_nil,Nat.reduceAdd]at X
 go_wp2_with fail
 refine X.mono ?_;rintro e w4 ⟨rfl,Z⟩;have BL2:=BLB.out w4 Z
 go_wp2_with fail
 refine BL2.mono ?_;rintro e w5 ⟨rfl,hb5⟩;have hb53:Bw E w5:=qa (boxed Z _) hb5;have U:=JN.out w5 hb53
 go_wp2_with fail
 refine U.mono ?_;rintro e w6 ⟨rfl,hb6⟩;have HF0:=HF.out w6 (qa (qa HX3.out hb53) hb6)
 rw[show bya (qv [a0,a1,a2,a3]++[44,32]++qv [c,d]++[44,32]++Lib.join (g.map (·.data.toList)) [32])=bya (qv [a0,a1,a2,a3])++⟨#[44,32]⟩++bya (qv [c,d])++⟨#[44,32]⟩++bya (Lib.join (g.map (·.data.toList)) [32]) by
  rw[show (⟨#[44,32]⟩:ByteArray)=bya [44,32]from rfl,jz,jz,jz,jz]]at HF0
 go_wp2
 go_ret;exact HF0
theorem q9k (w:World) (h:vk w cb mb b Gw G W j a cap l):Ca 60 #[PP cb,.slice a l.length cap] w (jm 14 W l w cb mb G):=by
 cases hn:ju 1 l with
 |none=>exact q8r w h hn
 |some r=>exact q65 w h hn
end
end
section
open Go.RowKit
structure jb3 (W:WoS) (k site seq wall count d0 d1 d2 d3 er:Int) (W':WoS) (told:List UInt8):Prop where
 cmd:qaa 5 W [k] ⟨#[]⟩ W' er told
 yes:er=0->told=if seq=0 then [110,111,116,104,105,110,103]else qv [site,seq,wall,count]++[58,32]++qv [d0,d1,d2,d3]
 wf:∀x∈[site,seq,wall,count,d0,d1,d2,d3],wfI x
theorem jaq {t:TxP} (h:okT t=true):∀x∈[t.site,t.seq,t.wall,t.count,t.d0,t.d1,t.d2,t.d3],wfI x:=by
 simp only[okT,jt,jb,qi,jct,jk,decide_eq_true_eq]at h;intro x c;simp only[jdd,List.not_mem_nil,or_false]at c
 rcases c with rfl|rfl|rfl|rfl|rfl|rfl|rfl|rfl<;>exact⟨by omega,by omega⟩
variable {W:WoS}
theorem q61 {k:Nat} (i:DkI W) (g:k<W.c):∀x∈[(wcT W k).site,(wcT W k).seq,(wcT W k).wall,(wcT W k).count,(wcT W k).d0,(wcT W k).d1,(wcT W k).d2,(wcT W k).d3],wfI x:=by
 obtain⟨j,d⟩:=i.pl;by_cases q:0<(wcT W k).seq
 ·exact jaq (d.told g q).1
 have z:wcT W k=⟨0,0,0,0,0,0,0,0,[]⟩:=by
  unfold wcT qce at q ⊢;split at q
  ·rename_i e;rw[if_pos e]
  rename_i e;rw[if_neg e];unfold qha at q ⊢;split at q
  ·rename_i f
   exfalso
   apply q
   have:=qis (ws:=jh (W.ses k).ws) (d.wf.inv _ (d.wf.at_ k g)) f;simp only[okT,jt,jct,jk]at this;have:=this.1.1.1.1.2.1;omega
  rename_i f;rw[if_neg f]
 rw[z];intro x h;simp at h;subst h;exact⟨by decide,by decide⟩
theorem qrx {b:Nat} {G:Nat->Prop} (k:Int) (o:DkI W):∃p r wall s u v y z er W' told,jb3 W k p r wall s u v y z er W' told/\∀w,PW w b G W->Ca 103 #[PP b,U k] w λe w'=>∃C n wc,e=.returned (.tuple #[.agg (List.toArray (T9 p r wall s u v y z C n wc)),jc er])/\vh w b G W' w':=by
 obtain⟨j,A⟩:=o.pl;by_cases d:ye k W.c
 ·obtain⟨i,rfl,hi,e⟩:=zq d
  refine⟨_,_,_,_,_,_,_,_,_,_,_,⟨by
   show qaa 5 W [(i:Int)] ⟨#[]⟩ (wcW W i) (wcE W i) (qgx W i);unfold qaa;simp only;rw[if_pos d]
   exact⟨rfl,rfl,rfl⟩,λ_=>rfl,q61 o hi⟩,λw h=>(q04 w h A.wf hi (λq=>(A.told hi q).1)).mono λe w' ⟨m,f,g,D⟩=>?_⟩
  obtain⟨_,E,p1,p2,p3,_⟩:=D.out;refine⟨m.wa,m.t.ws.length,m.wc,?_,E,p1,p2,p3⟩;rw[f];unfold txV;rw[g]
 refine⟨0,0,0,0,0,0,0,0,2,W,[],⟨by
  show if ye k W.c then _ else _
  rw[if_neg d]
  exact⟨rfl,rfl,rfl⟩,λe=>(by cases e),λx B=>?_⟩,λw h=>(qsr k w h d).mono λe w' ⟨f,g⟩=>⟨none,0,0,f,vh.same h g⟩⟩
 simp at B;subst B;exact⟨by decide,by decide⟩
section
variable {cb mb b j cap:Nat} {Gw G:Nat->Prop} {W:WoS} {a:Option Addr} {l:List ByteArray}
theorem vk.opAt {w o s p:World} {W':WoS} {i:Nat} (h:vk w cb mb b Gw G W j a cap l) (f:Bw w o) (t:vh o b Gw W' s) (B:w.heap.size<=i) (C:i<o.heap.size) (c:qc (λk=>k=i) s p):qbi (ckP cb mb W') w G p/\Gl p:=by
 obtain⟨r,p1,p2,d⟩:=t;have n:=h.ck.later f;have lc:=n.ltc;have u:=n.map.lt;have D:=h.ck.ltc;have E:=h.ck.map.lt
 have v:¬r i:=λe=>by
  rcases p2 i e with q|q
  ·have:=h.ck.pw.lt i q;omega
  omega
 have F:=d.size;refine⟨⟨λk=>k=cb\/k=mb\/r k,⟨b,r,⟨(c.block cb (by omega) (by omega)).trans ((d.block cb lc h.ck.n2).trans n.box),(n.map.kept (d.block mb u h.ck.n3)).kept (c.block mb (by omega) (by omega)),p1.kept (λk e=>c.block k (p1.lt k e) (λx=>v (x▸e))) c.size,h.ck.n1,λe=>?_,λe=>?_⟩,λ_=>jdl⟩,λk m=>?_,?_⟩,?_⟩
 ·rcases p2 cb e with q|q
  ·exact h.ck.n2 q
  omega
 ·rcases p2 mb e with q|q
  ·exact h.ck.n3 q
  omega
 ·rcases m with rfl|rfl|e
  ·exact .inl ((h.g k).2 (.inl rfl))
  ·exact .inl ((h.g k).2 (.inr (.inl rfl)))
  rcases p2 k e with q|q
  ·exact .inl ((h.g k).2 (.inr (.inr q)))
  exact .inr (jcn f.size q)
 ·refine⟨c.os.trans (d.os.trans f.os),c.tape.trans (d.tape.trans f.tape),c.output.trans (d.output.trans f.output),jcn f.size (jcn d.size c.size),λk m y=>?_⟩;have z:=jci m f.size;rw[c.block k (by omega) (by omega),d.block k z (λe=>y ((h.g k).2 (.inr (.inr e)))),f.block k m]
 have A:=h.gl.later f;have H:=h.gl.sz;refine A.kept (λk m=>?_) (jcn d.size c.size);rw[c.block k (by omega) (by omega),d.block k (by omega) (λe=>h.gn k m ((h.g k).2 (.inr (.inr e))))]
theorem q2v (w:World) (h:vk w cb mb b Gw G W j a cap l) (c:ju 1 l=none):Ca 51 #[PP cb,.slice a l.length cap] w (jm 5 W l w cb mb G):=by
 have f:=hd1 h
 have g:Hid (∀w',Bw w w'->Ca 95 #[.slice a l.length cap] w' λe w2=>e=qc7 3/\Bw w' w2):=λw' d=>(qi1 h.sm w' (h.gl.later d) (h.st.later d)).mono λe w2 ⟨i,k⟩=>by
  rcases k with ⟨v,m,_⟩|⟨_,n⟩
  ·rw[m.out]at c;cases c
  exact⟨n,i⟩
 have p:=h.ck.cell0;have q:=hd1 c;have s:=λo=>cell_later (boxed (jcc _ w) o) p;go_enter Tryz.func51,Tryz.ntmps51
 go_wp2
 go_region_dies
 all_goals
  refine(g.out _ (by repeat (first|(with_reducible exact jcc _ _)|(with_reducible refine boxed ?_ _)|(with_reducible refine jc6 ?_)))).mono ?_;rintro e t ⟨rfl,r⟩;exact⟨rfl,f.out.no (by decide) q.out (qa (by repeat (first|(with_reducible exact jcc _ _)|(with_reducible refine boxed ?_ _)|(with_reducible refine jc6 ?_))) r)⟩
end
end
section
open Go.RowKit
variable {g:Nat} {vs:List Value} {wb w wa w1:World} {W':WoS} {T:TypeId} {d0 d1 d2 d3:Int} {v:Value}
section
variable {cb mb b j cap:Nat} {Gw G:Nat->Prop} {W:WoS} {a:Option Addr} {l:List ByteArray}
theorem q3j {W':World} (x0 x1 x2 x3 d e f h i:Value):qc (λk=>k=g) W' (((((((((W'.setCell (AD g 0) x0).setCell (AD g 1) x1).setCell (AD g 2) x2).setCell (AD g 3) x3).setCell (AD g 4) d).setCell (AD g 5) e).setCell (AD g 6) f).setCell (AD g 7) h).setCell (AD g 8) i):=by
 have c:(λk=>k=g) g:=rfl;exact((((((((qc.setCell _ _ _ c).trans (qc.setCell _ _ _ c)).trans (qc.setCell _ _ _ c)).trans (qc.setCell _ _ _ c)).trans (qc.setCell _ _ _ c)).trans (qc.setCell _ _ _ c)).trans (qc.setCell _ _ _ c)).trans (qc.setCell _ _ _ c)).trans (qc.setCell _ _ _ c)
theorem ja7 {W':World} (h:qd W' g vs) (k:vs.length=9) (x0 x1 x2 x3 c d e f i:Value):qd (((((((((W'.setCell (AD g 0) x0).setCell (AD g 1) x1).setCell (AD g 2) x2).setCell (AD g 3) x3).setCell (AD g 4) c).setCell (AD g 5) d).setCell (AD g 6) e).setCell (AD g 7) f).setCell (AD g 8) i) g [x0,x1,x2,x3,c,d,e,f,i]:=by
 match vs,k with
 |[y0,y1,y2,y3,y4,y5,y6,y7,y8],_=>exact((((((((h.set 0 x0 (by simp)).set 1 x1 (by simp)).set 2 x2 (by simp)).set 3 x3 (by simp)).set 4 c (by simp)).set 5 d (by simp)).set 6 e (by simp)).set 7 f (by simp)).set 8 i (by simp)
theorem qwa {w':World} {n k:Nat} (d:∀k,Gw k->k<n) (e:vh w' b Gw W' wb) (h:qd w' k vs) (f:n<=k):qd wb k vs:=by
 obtain⟨i,p1,p2,c⟩:=e;exact h.kept (c.block k h.lt (λq=>by have:=d k q;omega)) c.size
theorem jca (c:∀k,Gw k->k<w.heap.size) (d:w.heap.size<=wa.heap.size) (e:vh (wa.alloc (.cells ZA T)) b Gw W' wb):qd wb wa.heap.size ZL:=qwa c e (qd.new (w:=wa) (T:=T) ZL rfl) d
theorem jb2 (c:∀k,Gw k->k<w.heap.size) (d:Below ((w.alloc (.cells ZA T)).drew).heap.size ((w.alloc (.cells ZA T)).drew) wa) (e:vh wa b Gw W' wb):qd wb w.heap.size ZL:=qwa c e (((qd.new (w:=w) (T:=T) ZL rfl).drew).later d) (jcd _)
def q0v (w:World) (cb mb:Nat) (G:Nat->Prop) (W':WoS) (b5:Nat) (site seq wall count d0 d1 d2 d3:Int) (wx:World):Prop:=qbi (ckP cb mb W') w G wx/\Gl wx/\∃v,qd wx b5 [U site,U seq,U wall,U count,U d0,U d1,U d2,U d3,v]
theorem jby {c:Nat} {d e wall f:Int} (h:vk w cb mb b Gw G W j a cap l) (i:Bw w w1) (k:vh w1 b Gw W' wb) (m:w.heap.size<=c) (n:c<w1.heap.size) (R:qd wb c ZL):
 q0v w cb mb G W' c d e wall f d0 d1 d2 d3 (((((((((wb.setCell (AD c 0) (U d)).setCell (AD c 1) (U e)).setCell (AD c 2) (U wall)).setCell (AD c 3) (U f)).setCell (AD c 4) (U d0)).setCell (AD c 5) (U d1)).setCell (AD c 6) (U d2)).setCell (AD c 7) (U d3)).setCell (AD c 8) v):=by
 obtain⟨o,p⟩:=h.opAt i k m n (q3j (W':=wb) (g:=c) (U d) (U e) (U wall) (U f) (U d0) (U d1) (U d2) (U d3) v);exact⟨o,p,v,ja7 R rfl _ _ _ _ _ _ _ _ _⟩
theorem jb9 {c d wall e:Int} (h:vk w cb mb b Gw G W j a cap l) (f:Bw w w1) (i:vh w1 b Gw W' wb):
 q0v w cb mb G W' wb.heap.size c d wall e d0 d1 d2 d3 (wb.alloc (.cells #[U c,U d,U wall,U e,U d0,U d1,U d2,U d3,v] T)):=by
 have k:=boxed (jcc wb.heap.size wb) (.cells #[U c,U d,U wall,U e,U d0,U d1,U d2,U d3,v] T);exact⟨qe3.after (h.ck.op h.g f i) k,(h.gl2 f i).later k,v,qd.new (w:=wb) (T:=T) [U c,U d,U wall,U e,U d0,U d1,U d2,U d3,v] rfl⟩
theorem qx3 (w:World) (h:vk w cb mb b Gw G W j a cap l) {r:List Int} (p:ju 1 l=some r):Ca 51 #[PP cb,.slice a l.length cap] w (jm 5 W l w cb mb G):=by
 have O:=hd1 h
 obtain⟨v,rfl⟩:∃v,r=[v]:=by
  unfold ju at p;split at p
  ·rename_i q;exact List.length_eq_one_iff.1 ((qbb p).trans q)
  cases p
 have N1:Hid (∀w',Bw w w'->Ca 95 #[.slice a l.length cap] w' λe w2=>e=.returned (U v)/\Bw w' w2):=λw' y=>(qi1 h.sm w' (h.gl.later y) (h.st.later y)).mono λe w2 ⟨Q,z⟩=>by
  rcases z with ⟨u,S,he⟩|⟨S,_⟩
  ·have:=S.out;rw[p]at this;injection this with this;injection this with this;rw[this];exact⟨he,Q⟩
  have:=S.out;rw[p]at this;cases this
 obtain⟨k,i,wall,m,d0,d1,d2,d3,er,W',told,HCm,OP0⟩:=qrx (b:=b) (G:=Gw) v h.di;have OP:=hd1 (λw' y=>OP0 w' (h.ck.later y).pw);have B:=hd2 HCm p;have L:=h.ck.cell0;have c0a:=λo=>cell_later (boxed (jcc _ w) o) L;have C:=hd1 h.ck.pw.lt;clear h p OP0 HCm;go_enter Tryz.func51,Tryz.ntmps51
 go_wp2
 go_cut [5,6] (λt5 t6 wx=>∃F:Nat,t5=.pointer (PT F)/\t6=jc er/\Hid (q0v w cb mb G W' F k i wall m d0 d1 d2 d3 wx))
 case first=>
  go_region_with (first|(go_at_call 95;refine(N1.out _ (by repeat (first|(with_reducible exact jcc _ _)|(with_reducible refine boxed ?_ _)|(with_reducible refine jc6 ?_)))).mono ?_;rintro e wa ⟨rfl,V⟩;have s:Bw w wa:=qa (by repeat (first|(with_reducible exact jcc _ _)|(with_reducible refine boxed ?_ _)|(with_reducible refine jc6 ?_))) V;have x0:=cell_later s L;have x0a:=λo=>cell_later (boxed s o) L)|(go_at_call 103;refine(OP.out _ (by first|exact s|exact boxed s _)).mono ?_;rintro e wb ⟨ya,yn,yc,rfl,H⟩;have hla:=s.size;(first|(have c:=jca C.out hla H;have e0:=c.cell 0 _ rfl;have f0:=c.free 0 (by simp);have e1:=c.cell 1 _ rfl;have f1:=c.free 1 (by simp);have e2:=c.cell 2 _ rfl;have f2:=c.free 2 (by simp);have e3:=c.cell 3 _ rfl;have f3:=c.free 3 (by simp);have e4:=c.cell 4 _ rfl;have f4:=c.free 4 (by simp);have e5:=c.cell 5 _ rfl;have f5:=c.free 5 (by simp);have e6:=c.cell 6 _ rfl;have f6:=c.free 6 (by simp);have e7:=c.cell 7 _ rfl;have f7:=c.free 7 (by simp);have e8:=c.cell 8 _ rfl;have f8:=c.free 8 (by simp))|(have c:=jb2 C.out V H;have e0:=c.cell 0 _ rfl;have f0:=c.free 0 (by simp);have e1:=c.cell 1 _ rfl;have f1:=c.free 1 (by simp);have e2:=c.cell 2 _ rfl;have f2:=c.free 2 (by simp);have e3:=c.cell 3 _ rfl;have f3:=c.free 3 (by simp);have e4:=c.cell 4 _ rfl;have f4:=c.free 4 (by simp);have e5:=c.cell 5 _ rfl;have f5:=c.free 5 (by simp);have e6:=c.cell 6 _ rfl;have f6:=c.free 6 (by simp);have e7:=c.cell 7 _ rfl;have f7:=c.free 7 (by simp);have e8:=c.cell 8 _ rfl;have f8:=c.free 8 (by simp))|skip)))
  all_goals
   go_wp2
   go_meet
   case rel=>
        refine⟨_,rfl,rfl,?_⟩;show q0v w cb mb G W' _ k i wall m d0 d1 d2 d3 _
        first
         |(have RB':=c
           first
            |(with_reducible exact jby O.out (boxed s _) H hla (by simp) RB')
            |(with_reducible exact jby O.out s H (jcd _) (by have q:=V.size;simp at q;omega) RB'))
         |(with_reducible exact jb9 O.out s H)
 obtain⟨F,rfl,rfl,I⟩:=hcut;have X:=qda er wc I.out.2.1;have J:Hid (∀e w',qbi (ckP cb mb W') w G w'->qlx er told e->jm 5 W l w cb mb G e w'):=λe w' Q z=>⟨W',er,told,by unfold qc2;rw[if_neg (by decide)];show match ju 1 l with|none=>_|some ns=>_;rw[B.out.2];exact B.out.1.cmd.data (by decide),z,Q⟩;clear N1 OP L c0a C
 go_wp2_with fail
 refine X.mono ?_;rintro e f ⟨M,(⟨t,rfl⟩|⟨t,rfl⟩)⟩
 rotate_left
 ·exact⟨rfl,J.out _ _ (qe3.after I.out.1 M) (.inr ⟨t,rfl⟩)⟩
 obtain⟨HL,C,v9,R0⟩:=I.out;have R:=R0.later M;have Y:=C.later M;have e1:=R.cell 1 _ rfl;have lt5:=R.lt;have D:=B.out.1.wf;have HL3:=hd1 (qe3.after HL M);have E:=B.out.1.yes t;by_cases hs:i=0
 ·subst hs;rw[if_pos rfl]at E;have N:=J.out (.returned (.string ⟨#[110,111,116,104,105,110,103]⟩)) f HL3.out (.inl ⟨t,by rw[E]⟩);clear X J I B D t E
  go_wp2
  go_ret;exact N
 rw[if_neg hs]at E
 have l1:(qv [k,i,wall,m]).length<=88:=by have:=ze (l:=[k,i,wall,m]) (λx d=>D x (by simp at d ⊢;rcases d with e|e|e|e<;>simp[e]));simpa using this
 have l2:(qv [d0,d1,d2,d3]).length<=88:=by have:=ze (l:=[d0,d1,d2,d3]) (λx d=>D x (by simp at d ⊢;rcases d with e|e|e|e<;>simp[e]));simpa using this
 have A1:=λw=>qfi (P:=Tryz.prog) (bya (qv [k,i,wall,m])) ⟨#[58,32]⟩ (by simp[zo];omega) w;have A2:=λw=>qfi (P:=Tryz.prog) (bya (qv [k,i,wall,m])++⟨#[58,32]⟩) (bya (qv [d0,d1,d2,d3])) (by simp[zo];omega) w;have hwx:Bw f ((f.alloc (.cells #[U k,U i,U wall,U m] 3)).drew):=(boxed (jcc _ f) _).drew;have Z:=qb1 (b:=f.heap.size) (o:=0) (cap:=4) (l:=[k,i,wall,m]) (by simp) (by simp) (λx d=>D x (by simp at d ⊢;rcases d with e|e|e|e<;>simp[e])) ((f.alloc (.cells #[U k,U i,U wall,U m] 3)).drew) (Y.later hwx) (by simp) (qee (w:=f) (T:=3) [k,i,wall,m])
 have BLD:Hid (∀w',Bw f w'->Ca 102 #[.slice (some (AD F 4)) 4 4] w' λe w2=>e=.returned (.string (bya (qv [d0,d1,d2,d3])))/\Bw w' w2):=λw' z=>by
  have K:=R.later z
  exact qb1 (b:=F) (o:=4) (cap:=4) (l:=[d0,d1,d2,d3]) (by simp) (by simp) (λx d=>D x (by simp at d ⊢;rcases d with e|e|e|e<;>simp[e])) w' (Y.later z) K.lt (λq x d=>by
   match q,d with
   |0,d=>simp at d;subst d;exact K.cell 4 _ rfl
   |1,d=>simp at d;subst d;exact K.cell 5 _ rfl
   |2,d=>simp at d;subst d;exact K.cell 6 _ rfl
   |3,d=>simp at d;subst d;exact K.cell 7 _ rfl
   |n+4,d=>simp at d)
 have N:Hid (∀w',Bw f w'->jm 5 W l w cb mb G (.returned (.string (bya (qv [k,i,wall,m])++⟨#[58,32]⟩++bya (qv [d0,d1,d2,d3])))) w'):=λw' y=>J.out _ _ (qe3.after HL3.out y) (.inl ⟨t,by rw[E,<-jz,<-jz]⟩)
 dsimp only[List.length_cons,List.length_nil,Nat.reduceAdd]at Z
 have X0:=λ(w':World) (h:Bw f w')=>(R.later h).cell 0 _ rfl;have X1:=λ(w':World) (h:Bw f w')=>(R.later h).cell 1 _ rfl;have X2:=λ(w':World) (h:Bw f w')=>(R.later h).cell 2 _ rfl;have X3:=λ(w':World) (h:Bw f w')=>(R.later h).cell 3 _ rfl;clear l1 l2 t D X B E J I R R0 HL C Y
 go_wp2
 go_region_held3 (λw'=>Bw f w') ((repeat (first|(with_reducible assumption)|(with_reducible refine boxed ?_ _)|(with_reducible refine jc6 ?_)|(with_reducible exact jcc _ _))))
  (first|(go_at_call 102;(with_reducible refine Z.mono ?_);rintro e w4 ⟨rfl,hb4⟩;have hb43:=qa hwx hb4;have BL2:=BLD.out w4 hb43)|(go_at_call 102;(with_reducible refine BL2.mono ?_);rintro e w5 ⟨rfl,hb5⟩;have hb53:=qa hb43 hb5;have HF0:=N.out w5 hb53))
 all_goals
  clear Z BL2 N BLD
  go_wp2
  go_ret;exact HF0
theorem q3k (w:World) (h:vk w cb mb b Gw G W j a cap l):Ca 51 #[PP cb,.slice a l.length cap] w (jm 5 W l w cb mb G):=by
 cases hn:ju 1 l with
 |none=>exact q2v w h hn
 |some r=>exact qx3 w h hn
end
end
section
open Go.RowKit Go.Maps
def qmx (i:Nat):Prop:=∀{w:World} {cb mb b j cap:Nat} {Gw G:Nat->Prop} {W:WoS} {a:Option Addr} {l:List ByteArray},vk w cb mb b Gw G W j a cap l->Ca (q3p i) #[PP cb,.slice a l.length cap] w (jm i W l w cb mb G)
theorem qvl (a:qmx 9):∀i,i<19->qmx i
 |0,_=>λh=>q4h _ h
 |1,_=>λh=>ja5 _ h
 |2,_=>λh=>q5e _ h
 |3,_=>λh=>q8k _ h
 |4,_=>λh=>q3r _ h
 |5,_=>λh=>q3k _ h
 |6,_=>λh=>qze _ h
 |7,_=>λh=>q8p _ h
 |8,_=>λh=>q92 _ h
 |9,_=>a
 |10,_=>λh=>q8t _ h
 |11,_=>λh=>q9x _ h
 |12,_=>λh=>q8m _ h
 |13,_=>λh=>q8w _ h
 |14,_=>λh=>q9k _ h
 |15,_=>λh=>q59 _ h
 |16,_=>λh=>q6l _ h
 |17,_=>λh=>q4x _ h
 |18,_=>λh=>q6z _ h
 |n+19,h=>absurd h (by omega)
theorem qr4 (w:World):(zeroValue 65).run Tryz.prog w=.ok .nilFunc w:=by kernel_rfl
variable {w:World} {mb cb i:Nat} {s:ByteArray}
theorem zm.held (h:zm w mb cb 19) (b:s.size<=maxLen) (hi:i<19) (c:s.data.toList=qn i):(Instr.lookup 55 (.map (some mb)) (.string s) false).run Tryz.prog w=.ok (doV cb i) w:=by
 obtain⟨D,o,d⟩:=h;obtain⟨v,ps,e,a⟩:=o.lookup qhg Tryz.underlying55 (qr4 w) (zd:=.held .nilFunc) (zp:=[]) rfl (qps b);rw[c,(d.has i hi).2]at a
 have:v=doV cb i:=by
  unfold qcd at a;injection a with a;injection a with a;injection a
 rw[e,this]
theorem zm.lacks (h:zm w mb cb 19) (b:s.size<=maxLen) (c:∀i,i<19->s.data.toList≠qn i):(Instr.lookup 55 (.map (some mb)) (.string s) false).run Tryz.prog w=.ok .nilFunc w:=by
 obtain⟨D,o,d⟩:=h;obtain⟨v,ps,e,a⟩:=o.lookup qhg Tryz.underlying55 (qr4 w) (zd:=.held .nilFunc) (zp:=[]) rfl (qps b);rw[(d.no _ c).2]at a
 have:v=.nilFunc:=by
  unfold qcd at a;injection a with a;injection a with a;injection a
 rw[e,this]
theorem qfj.tail {A o cap:Nat} {x:ByteArray} {l:List ByteArray} (h:qfj w (some (AD A o)) cap (x::l)):qfj w (some (AD A (o+1))) (cap-1) l:=
 ⟨by have:=h.cap;simp at this;omega,λj y a=>by
   obtain⟨b,p,e,c,d⟩:=h.cell (j+1) y (by simpa using a);injection e with e;injection e with e1 e2;subst e1;subst e2
   exact⟨A,o+1,rfl,c,by rw[show o+1+j=o+(j+1) by omega];exact d⟩⟩
theorem qmv {s:List UInt8} (h:qc9.idxOf? s=some i):i<19/\s=qn i:=by
 rw[List.idxOf?_eq_some_iff]at h;obtain⟨hi,a,_⟩:=h;refine⟨hi,?_⟩;unfold qn;rw[jdp,jcg hi];simpa using a.symm
theorem quh {s:List UInt8} (h:qc9.idxOf? s=none):∀i,i<19->s≠qn i:=λi hi e=>by
 rw[List.idxOf?_eq_none_iff]at h
 apply h
 rw[e];unfold qn;rw[jdp,jcg (show i<qc9.length from hi)];exact jdr _
end
section
def Few (n:Int):Prop:=0<=n/\n<=100
theorem Few.wf {n:Int} (h:Few n):wfI n:=⟨by have:=h.1;omega,by have:=h.2;omega⟩
variable {c:Prop}
theorem qdq [Decidable c] {a b:Int} (h:Few a) (k:Few b):Few (if c then a else b):=by
 by_cases q:c
 ·rw[if_pos q];exact h
 rw[if_neg q];exact k
theorem qdh:Few 0:=⟨by decide,by decide⟩
theorem jak:Few 1:=⟨by decide,by decide⟩
theorem qdu:Few 2:=⟨by decide,by decide⟩
theorem jaf:Few 3:=⟨by decide,by decide⟩
theorem jbs:Few 4:=⟨by decide,by decide⟩
theorem qrj:Few 6:=⟨by decide,by decide⟩
theorem jah:Few 8:=⟨by decide,by decide⟩
theorem qts:Few 10:=⟨by decide,by decide⟩
theorem qyd:Few 12:=⟨by decide,by decide⟩
theorem q9l (s:qy):Few (qi5 s):=qdq qrj qdh
theorem q8c (S:qe) (s:qy):Few (qhl S s):=qdq qrj (qdq qts qdh)
theorem q0s (s:qy) (x:Wr):Few (qaj s x):=qdq qrj (qdq qdu (qdq jbs (qdq jak (qdq qyd qdh))))
theorem q6c (W:WoS) (k:Nat):Few (qll W k):=qdq qrj qdh
variable {α:Type}
theorem q5n [Decidable c] {a b:α×Int} (h:Few a.2) (k:Few b.2):Few (if c then a else b).2:=by
 by_cases q:c
 ·rw[if_pos q];exact h
 rw[if_neg q];exact k
theorem qn9 {β:Type} [Decidable c] {a b:α×β×Int} (h:Few a.2.2) (k:Few b.2.2):Few (if c then a else b).2.2:=by
 by_cases q:c
 ·rw[if_pos q];exact h
 rw[if_neg q];exact k
theorem q5i (a b c:Int):Few (qcp a b c).2.2:=qn9 qdu (qn9 qdu (qn9 qdh (qn9 qyd qdh)))
theorem jbo (o:Option Ver):Few (qjj o).2:=by
 unfold qjj
 repeat' split
 all_goals first|exact qdh|exact jah
theorem qxv (S:qe) (n:Nat) (now a b d e:Int) (ws:List Wr):Few (ji S n now a b d e ws):=by
 unfold ji;exact qdq jak (qdq qts (qdq qts (qdq qyd (q5i ..))))
theorem q8b (W:WoS) (k:Nat):Few (wcE W k):=qdq qrj (qdq qdh (qxv ..))
theorem ja4 (S:qe) (k a0 a1 a2 a3:Int):Few (qbq S k a0 a1 a2 a3).2:=q5n (q5n (jbo _) qdu) qts
theorem q55 (S:qe) (s:qy) (k:Int):Few (vi S s k).2:=by
 unfold vi;by_cases q:s.opn=false
 ·rw[if_pos q];exact qrj
 rw[if_neg q];cases qay s.ws k with
 |none=>exact ja4 ..
 |some x=>
  by_cases g:x.gone=true
  ·simp only[if_pos g];exact jah
  simp only[if_neg g];exact qdh
variable {i:Nat} {W W':WoS} {er:Int} {t:List UInt8}
theorem qaa.few {l:List Int} {d:ByteArray} (h:qaa i W l d W' er t):Few er:=by
 unfold qaa at h;split at h
 case h_1=>have h:=h.2;split at h<;>(rw[h.2];first|exact q9l _|exact qdu)
 case h_2=>have h:=h.2;split at h<;>(rw[h.2];first|exact qdh|exact qdu)
 case h_3=>have h:=h.2;split at h<;>(rw[h.2];first|exact q8c _ _|exact qdu)
 case h_4=>rw[h.2.2];exact qdh
 case h_5=>have h:=h.2;split at h<;>(rw[h.2];first|exact qdh|exact qdu)
 case h_6=>split at h<;>(rw[h.2.2];first|exact q8b _ _|exact qdu)
 case h_7=>have h:=h.2;split at h<;>(rw[h.2];first|exact qdh|exact qdu)
 case h_8=>have h:=h.2;split at h<;>(rw[h.2];first|exact q0s _ _|exact qdu)
 case h_9=>have h:=h.2;split at h<;>(rw[h.2];first|exact qdh|exact qdu)
 case h_10=>rw[h.2.2];exact qdh
 case h_11=>have h:=h.2;split at h<;>(rw[h.2];first|exact qdh|exact qdu)
 case h_12=>rw[h.2.2];exact qdh
 case h_13=>have h:=h.2;split at h<;>(rw[h.2];first|exact q6c _ _|exact qdu)
 case h_14=>have h:=h.2;split at h<;>(rw[h.2];first|exact q55 _ _ _|exact qdu)
 case h_15=>have h:=h.2;split at h<;>(rw[h.2];first|exact qdh|exact qdu)
 case h_16=>have h:=h.2;split at h<;>(rw[h.2];first|exact qdh|exact qdu)
 case h_17=>have h:=h.2;split at h<;>(rw[h.2];first|exact qdh|exact qdu)
 case h_18=>have h:=h.2;split at h<;>(rw[h.2];first|exact qdh|exact qdu)
 case h_19=>have h:=h.2;split at h<;>(rw[h.2];first|exact q0s _ _|exact qdu)
 exact h.elim
theorem qc2.few {l:List ByteArray} (h:qc2 i W l W' er t):Few er:=by
 unfold qc2 at h;split at h
 ·rw[h.2.1];exact jaf
 exact h.few
end
def jb4 (x y:List UInt8):Bool:=decide (x<=y)
theorem qv2:qc9.Pairwise (λx y=>jb4 x y=true):=by decide
theorem qu9 {d:List (List UInt8)} (h:d.Perm qc9):d.mergeSort (λx y=>decide (x<=y))=qc9:=by
 have g:∀a b c:List UInt8,decide (a<=b)=true->decide (b<=c)=true->decide (a<=c)=true:=λa b c e f=>decide_eq_true (List.le_trans (of_decide_eq_true e) (of_decide_eq_true f))
 have i:∀a b:List UInt8,(decide (a<=b)||decide (b<=a))=true:=λa b=>by
  rcases List.le_total a b with q|q<;>simp[q]
 have j:=List.pairwise_mergeSort g i d;have k:=(List.mergeSort_perm d (λx y=>decide (x<=y))).trans h;exact k.eq_of_pairwise (λa b _ _ e f=>List.le_antisymm (of_decide_eq_true e) (of_decide_eq_true f)) j qv2
end Go.Proofs.YtoanjdndmlffdaaGreatDoor
