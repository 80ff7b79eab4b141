import Derived.Test.YtemiamjnhoeniaaGreatDoorRTakeC0
import Derived.Test.YtemiamjnhoeniaaGreatDoorRTakeB
set_option maxHeartbeats 16000000
set_option maxRecDepth 1000000
namespace Go.Proofs.YtemiamjnhoeniaaGreatDoor
open Go.RowKit
section
open Go.Value Go.IntKind
noncomputable def q5c:Code:=((Tryz.f84.body.bind (qeh 16)).getD .skip)
theorem qnq {b:Nat} {G:Nat->Prop} {F:Nat->Option Obj} {S:qaf} {y1 y2 y3 y4 y5 y6 y7 y8 y9 y10 y11 y12 y13 y14 y15 y16 y17 y18 y19 y20 y21 y22 y23 y24 y25 y26 y27 y28 y29 y30 y31 y32 y33 y34 y35 y36 y37 y38 y39 y40 y41 y42 y43 y44 y45 y46 y47 y48 y49 y50 y51 y52 y53 y54 y55 y56 y57 y58 y59 y60 y61 y62 y63 y64 y65 y66 y67 y68 y69 y70 y71 y72 y73 y74 y75 y76 y77 y78 y79 y80 y81 y82 y83 y84 y85 y86 y87 y88 y89 y90 y91 y92 y93 y94 y95 y96 y97 y98 y99 y100 y101 y102 y103 y104 y105 y106 y107 y108 y109 y110 y111 y112 y113 y114 y115 y116 y117 y118 y119 y120 y121 y122 y123 y124 y125 y126 y127 y128 y129 y130 y131 y132 y133 y134 y135 y136 y137 y138 y139 y140 y141 y142 y143 y144 y145 y146 y147 y148 y149 y150 y151 y152 y153 y154 y155 y156 y157 y158 y159 y160 y161 y162 y163 y164 y165 y166 y167 y168 y169 y170 y171 y172 y173 y174 y175 y176 y177 y178 y179 y180 y181 y182 y183 y184 y185 y186 y187 y188 y189 y190 y191 y192 y193 y194 y195 y196:Value} (w:World) (M0:qwq w b G F S S w) (R:Act->World->Prop)
 (hR:∀(u8 u9 u10 u11 u111 u112 u113 u114 u115 u116 u117 u118 u119 u120 u121 u122 u123 u124 u125 u126 u127 u128 u129 u130 u131 u132 u133 u134 u135 u136 u137 u138 u139 u140 u141 u142 u143 u144 u145 u146 u147 u148 u149 u150 u151 u152 u153 u154 u155 u156 u157 u158 u159 u160 u161 u162 u163 u164 u165 u166 u167 u168 u169 u170 u171 u172 u173 u174 u175 u176 u177 u178 u179 u180 u181 u182 u183 u184 u185 u186 u187 u188 u189 u190 u191 u192 u193 u194 u195 u196:Value) (S':qaf) (w':World),Goes S S'->RPo w b G F S' w'->R ⟨List.toArray ((.pointer (some ⟨b,0,none⟩))::y1::y2::y3::y4::y5::y6::y7::u8::u9::u10::u11::y12::y13::y14::y15::y16::y17::y18::y19::y20::y21::y22::y23::y24::y25::y26::y27::y28::y29::y30::y31::y32::y33::y34::y35::y36::y37::y38::y39::y40::y41::y42::y43::y44::y45::y46::y47::y48::y49::y50::y51::y52::y53::y54::y55::y56::y57::y58::y59::y60::y61::y62::y63::y64::y65::y66::y67::y68::y69::y70::y71::y72::y73::y74::y75::y76::y77::y78::y79::y80::y81::y82::y83::y84::y85::y86::y87::y88::y89::y90::y91::y92::y93::y94::y95::y96::y97::y98::y99::y100::y101::y102::y103::y104::y105::y106::y107::y108::y109::y110::u111::u112::u113::u114::u115::u116::u117::u118::u119::u120::u121::u122::u123::u124::u125::u126::u127::u128::u129::u130::u131::u132::u133::u134::u135::u136::u137::u138::u139::u140::u141::u142::u143::u144::u145::u146::u147::u148::u149::u150::u151::u152::u153::u154::u155::u156::u157::u158::u159::u160::u161::u162::u163::u164::u165::u166::u167::u168::u169::u170::u171::u172::u173::u174::u175::u176::u177::u178::u179::u180::u181::u182::u183::u184::u185::u186::u187::u188::u189::u190::u191::u192::u193::u194::u195::u196::[]),[]⟩ w'):
 Code.wp Tryz.prog q5c (λe a w=>e=.exit 2/\R a w) ⟨List.toArray ((.pointer (some ⟨b,0,none⟩))::y1::y2::y3::y4::y5::y6::y7::y8::y9::y10::y11::y12::y13::y14::y15::y16::y17::y18::y19::y20::y21::y22::y23::y24::y25::y26::y27::y28::y29::y30::y31::y32::y33::y34::y35::y36::y37::y38::y39::y40::y41::y42::y43::y44::y45::y46::y47::y48::y49::y50::y51::y52::y53::y54::y55::y56::y57::y58::y59::y60::y61::y62::y63::y64::y65::y66::y67::y68::y69::y70::y71::y72::y73::y74::y75::y76::y77::y78::y79::y80::y81::y82::y83::y84::y85::y86::y87::y88::y89::y90::y91::y92::y93::y94::y95::y96::y97::y98::y99::y100::y101::y102::y103::y104::y105::y106::y107::y108::y109::y110::y111::y112::y113::y114::y115::y116::y117::y118::y119::y120::y121::y122::y123::y124::y125::y126::y127::y128::y129::y130::y131::y132::y133::y134::y135::y136::y137::y138::y139::y140::y141::y142::y143::y144::y145::y146::y147::y148::y149::y150::y151::y152::y153::y154::y155::y156::y157::y158::y159::y160::y161::y162::y163::y164::y165::y166::y167::y168::y169::y170::y171::y172::y173::y174::y175::y176::y177::y178::y179::y180::y181::y182::y183::y184::y185::y186::y187::y188::y189::y190::y191::y192::y193::y194::y195::y196::[]),[]⟩ w:=by
 have HR:Hid _:=hR;clear hR
 conv=>arg 2;whnf
 go_loopw [8] (λ_ wr=>∃(c:qaf),Hid (qwq w b G F S c wr)) (λ_ wr=>qkt wr b)
 case atStart=>exact⟨S,M0⟩
 case round=>
  clear M0;obtain⟨c,y⟩:=hrel;obtain⟨G',PG,hGG⟩:=y.out.mem;have LE:Hid (qkt wr b=200-c.log.length):=PG.left;obtain⟨lv,wv,sv,log,waits,D,W,X,hG,hF⟩:=PG;have HFR:Hid (qfr wr F log):=hF;obtain⟨M,lc,rfl,Y⟩:=qa6 D.rlog;obtain⟨E,B,rfl,N⟩:=qa6 D.rwait;have v:Hid (qc6 wr b (.slice M log.length lc) (.slice E waits.length B) sv c log waits/\log.map (·.t)=c.log/\waits.map (·.t)=c.waits/\(∀k,G' k↔(qap b (.slice M log.length lc) (.slice E waits.length B) sv k\/∃m∈log++waits,m.blk k))/\∀k,G' k->G k\/w.heap.size<=k):=⟨D,W,X,hG,hGG⟩;have HVT:Hid (qec wr E B waits):=N
  have hll:log.length=c.log.length:=by rw[<-W];simp
  have hww:waits.length<=1000:=by have:=y.out.wn;rw[<-X]at this;simpa using this
  have HWW:Hid (waits.length<=1000):=hww;have s7:=D.box.cell 7 _ rfl;have s8:=D.box.cell 8 _ rfl;have hvl:=N.len;have hvc:=N.cap;have hl1:=Y.len;have hl2:=Y.cap;clear D W X hG hF hGG N Y;by_cases hf:200<=log.length
  ·have O:Hid (200<=c.log.length):=by show _<=_;omega
   have h2:¬(log.length:Int)<200:=by omega
   clear hf hll
   go_wp2_with fail
   exact HR.out _ _ _ _ _ _ _ _ _ _ _ _ _ _ _ _ _ _ _ _ _ _ _ _ _ _ _ _ _ _ _ _ _ _ _ _ _ _ _ _ _ _ _ _ _ _ _ _ _ _ _ _ _ _ _ _ _ _ _ _ _ _ _ _ _ _ _ _ _ _ _ _ _ _ _ _ _ _ _ _ _ _ _ _ _ _ _ _ _ _ c wr (y.out.go c (.full O.out)) y.out.done
  ·have O:Hid (c.log.length<200):=by show _<_;omega
   have h2:(log.length:Int)<200:=by omega
   clear hf hll
   go_wp2_with fail
   refine qka (qut wr v.out.1 v.out.2.2.1 y.out.inv HWW.out _ ?_);intro u9 u10 u122 u123 u124 u125 u126 u127 u128 u129 u130 u131 u132 u133 u134 u135 u136 u137 u138 u139 u140 u141 u142 u143 u144 u145 u146 u147 u148 u149 u150 u151 u152 u153 u154 u155 u156 u157 u158 u159 u160 u161 u162 u163 u164 u165 z w2 Z J;have HM2:Hid (qwq w b G F S c w2):=y.out.later J;have P:Hid (qc6 w2 b (.slice M log.length lc) (.slice E waits.length B) sv c log waits):=v.out.1.later J;have HF2:Hid (qfr w2 F log):=HFR.out.later v.out.1 J;have HV2:Hid (qec w2 E B waits):=HVT.out.later J;rcases q1e Z v.out.2.2.1 (λx C=>(qdn (y.out.inv.wt x C).1).1)with ⟨rfl,C⟩|⟨i,⟨⟨xs,d,f,g,h,j,l,n,o⟩,p,q⟩,hzi,Q,C⟩
   ·have U:Hid (qgw c=none):=C;clear C Z s7 s8 J
    go_wp2_with fail
    exact⟨trivial,HR.out _ _ _ _ _ _ _ _ _ _ _ _ _ _ _ _ _ _ _ _ _ _ _ _ _ _ _ _ _ _ _ _ _ _ _ _ _ _ _ _ _ _ _ _ _ _ _ _ _ _ _ _ _ _ _ _ _ _ _ _ _ _ _ _ _ _ _ _ _ _ _ _ _ _ _ _ _ _ _ _ _ _ _ _ _ _ _ _ _ _ c w2 (y.out.go c (.none U.out)) HM2.out.done⟩
   ·have U:Hid (qgw c=some ⟨xs,d,f,g,h,j,l,n,o⟩/\waits[i]?=some ⟨⟨xs,d,f,g,h,j,l,n,o⟩,p,q⟩):=⟨C,Q⟩;have aa:i<waits.length:=(List.getElem?_eq_some_iff.1 Q).1;have HZI:Hid (z=i/\i<waits.length):=⟨hzi,aa⟩
    have z0:0<=z:=by omega
    have z1:z.toNat=i:=by omega
    have z2:z<(waits.length:Int):=by omega
    have z3:¬z<0:=by omega
    obtain⟨H,I,hwa,hcc⟩:∃H I,E=some ⟨H,I,none⟩/\∀i m r u,waits[i]?=some m->(txC m)[r]?=some u->w2.cell? ⟨H,I+(i*9+r),none⟩=some u:=by
     rcases HV2.out.held with e|e
     ·rw[e]at aa;simp at aa
     ·exact e
    subst hwa;have s:=λr u (hu:(txC ⟨⟨xs,d,f,g,h,j,l,n,o⟩,p,q⟩)[r]?=some u)=>(show w2.cell? ⟨H,I+i*9+r,none⟩=some u by rw[Nat.add_assoc];exact hcc i _ r u Q hu);have x0:=s 0 _ rfl;have x1:=s 1 _ rfl;have x2:=s 2 _ rfl;have x3:=s 3 _ rfl;have x4:=s 4 _ rfl;have x5:=s 5 _ rfl;have x6:=s 6 _ rfl;have x7:=s 7 _ rfl;have x8:=s 8 _ rfl;rw[Nat.add_zero]at x0;have s28:=P.out.box.cell 8 _ rfl;clear s hcc Q C Z s7 s8 hzi
    go_wp2_with fail
    have K:=boxed (Below.refl w2.heap.size w2) (.cells #[int i64 xs,int i64 d,int i64 f,int i64 g,int i64 h,int i64 j,int i64 l,int i64 n,.slice p o.length q] 80);have L:Hid (qc6 (w2.alloc (.cells #[int i64 xs,int i64 d,int i64 f,int i64 g,int i64 h,int i64 j,int i64 l,int i64 n,.slice p o.length q] 80)) b (.slice M log.length lc) (.slice (some ⟨H,I,none⟩) waits.length B) sv c log waits):=P.out.later K;have V:=qag.new (w:=w2) (T:=80) [int i64 xs,int i64 d,int i64 f,int i64 g,int i64 h,int i64 j,int i64 l,int i64 n,.slice p o.length q] rfl;change qag (w2.alloc (.cells #[int i64 xs,int i64 d,int i64 f,int i64 g,int i64 h,int i64 j,int i64 l,int i64 n,.slice p o.length q] 80)) w2.heap.size [int i64 xs,int i64 d,int i64 f,int i64 g,int i64 h,int i64 j,int i64 l,int i64 n,.slice p o.length q]at V;have HM3:Hid (qwq w b G F S c (w2.alloc (.cells #[int i64 xs,int i64 d,int i64 f,int i64 g,int i64 h,int i64 j,int i64 l,int i64 n,.slice p o.length q] 80))):=HM2.out.later K;have HF3:Hid (qfr (w2.alloc (.cells #[int i64 xs,int i64 d,int i64 f,int i64 g,int i64 h,int i64 j,int i64 l,int i64 n,.slice p o.length q] 80)) F log):=HF2.out.later P.out K;have HV3:Hid (qec (w2.alloc (.cells #[int i64 xs,int i64 d,int i64 f,int i64 g,int i64 h,int i64 j,int i64 l,int i64 n,.slice p o.length q] 80)) (some ⟨H,I,none⟩) B waits):=HV2.out.later K;obtain⟨W3,hW3⟩:∃W3,w2.alloc (.cells #[int i64 xs,int i64 d,int i64 f,int i64 g,int i64 h,int i64 j,int i64 l,int i64 n,.slice p o.length q] 80)=W3:=⟨_,rfl⟩
    have hnb:w2.heap.size≠b:=by have:=P.out.box.lt;omega
    rw[hW3]at K L V HM3 HF3 HV3 ⊢;clear hW3 x0 x1 x2 x3 x4 x5 x6 x7 x8 s28;refine qkl (qs6 W3 HV3 HWW HZI (L.out.box.cell 8 _ rfl) (L.out.box.free 8 (by simp[qcf])) _ ?_);intro u175 u176 u177 u178 u179 u180 u181 u182 u183 u184 u185 u186 u187 u188 u189 u190 u191 u192 u193 w7 g2 c2 n2 hb7 hg1 hg2 hn2 own7
    obtain⟨P7,T7,F7⟩:=L.out.reset hb7 hg1 own7 hn2.symm (λm hm=>.inl (by
     rcases List.mem_append.1 hm with h1|h1
     ·exact List.mem_of_mem_take h1
     ·exact List.mem_of_mem_drop h1)) (qgc c.waits ⟨xs,d,f,g,h,j,l,n,o⟩)
    have AP:=qqn HM3.out L.out HF3.out v.out.2.1 v.out.2.2.1 v.out.2.2.2.1 v.out.2.2.2.2 U.out.2 O.out U.out.1 T7 F7 P7;have RX7:qag (w7.setCell ⟨b,8,none⟩ (.slice (some ⟨g2,0,none⟩) n2 c2)) w2.heap.size [int i64 xs,int i64 d,int i64 f,int i64 g,int i64 h,int i64 j,int i64 l,int i64 n,.slice p o.length q]:=(V.later hb7).kept (Below.heap_setCell _ _ _ _ hnb) (by simp[World.setCell]);obtain⟨W8,hW8⟩:∃W8,w7.setCell ⟨b,8,none⟩ (.slice (some ⟨g2,0,none⟩) n2 c2)=W8:=⟨_,rfl⟩;rw[hW8]at AP RX7 ⊢;obtain⟨x0,x1,x2,x3,x4,x5,x6,x7,x8⟩:=RX7.c9;clear P7 T7 F7 V RX7 hb7 hg1 hg2 own7 hW8 hn2
    go_wp2_with fail
    refine AP.mono ?_;rintro e w9 ⟨rfl,hM9,_⟩;have HM9:Hid (qwq w b G F S (ql5 c ⟨xs,d,f,g,h,j,l,n,o⟩) w9):=hM9;clear x0 x1 x2 x3 x4 x5 x6 x7 x8 AP hM9
    go_wp2_with fail
    go_roundw
    case rel=>exact⟨_,HM9⟩
    case measure=>
     obtain⟨G5,p5,_⟩:=HM9.out.mem;rw[p5.left,LE.out];have:=O.out;simp[ql5,qbr];omega
end
section
open Go.Value Go.IntKind
noncomputable def q4i:Code:=((Tryz.f84.body.bind (qig 12)).getD .skip)
theorem qi5 {b:Nat} {G:Nat->Prop} {F:Nat->Option Obj} {S:qaf} {r I a:Option Addr} {lc J cap:Nat} {sv:Value} {log waits:List TxM} {site seq wall count d0 d1 d2 d3:Int} {ws:List Wr} {nw:Bool} {y1 y2 y4 y5 y6 y8 y9 y10 y11 y12 y13 y14 y15 y16 y17 y18 y19 y20 y21 y22 y23 y24 y25 y26 y27 y28 y29 y30 y31 y32 y33 y34 y35 y36 y37 y38 y39 y40 y41 y42 y43 y44 y45 y46 y47 y48 y49 y50 y51 y52 y53 y54 y55 y56 y57 y58 y59 y60 y61 y62 y63 y64 y65 y66 y67 y68 y69 y70 y71 y72 y73 y74 y75 y76 y77 y78 y79 y80 y81 y82 y83 y84 y85 y86 y87 y88 y89 y90 y91 y92 y93 y94 y95 y96 y97 y98 y99 y100 y101 y102 y103 y104 y105 y106 y107 y108 y109 y110 y111 y112 y113 y114 y115 y116 y117 y118 y119 y120 y121 y122 y123 y124 y125 y126 y127 y128 y129 y130 y131 y132 y133 y134 y135 y136 y137 y138 y139 y140 y141 y142 y143 y144 y145 y146 y147 y148 y149 y150 y151 y152 y153 y154 y155 y156 y157 y158 y159 y160 y161 y162 y163 y164 y165 y166 y167 y168 y169 y170 y171 y172 y173 y174 y175 y176 y177 y178 y179 y180 y181 y182 y183 y184 y185 y186 y187 y188 y189 y190 y191 y192 y193 y194 y195 y196:Value} (w c:World) (hPM:qc6 c b (.slice r log.length lc) (.slice I waits.length J) sv S log waits)
 (hl:log.map (·.t)=S.log) (hw:waits.map (·.t)=S.waits) (hG:∀k,G k↔(qap b (.slice r log.length lc) (.slice I waits.length J) sv k\/∃m∈log++waits,m.blk k)) (hF:qfr c F log) (hGL:∀k,G k->k<w.heap.size) (hRB:qag c w.heap.size [int i64 site,int i64 seq,int i64 wall,int i64 count,int i64 d0,int i64 d1,int i64 d2,int i64 d3,.slice a ws.length cap]) (hW4:qat c a cap ws) (sw:1<=ws.length/\ws.length<=5)
 (hn:waits.length<=900) (hI:qcr {S with waits:=S.waits++[⟨site,seq,wall,count,d0,d1,d2,d3,ws⟩]}) (K:Below w.heap.size w c) (hf:log.length<200) (h40:waits.length<40\/nw=true):
 Code.wp Tryz.prog q4i (λe a w'=>e=.ret/\a.defers=[]/\a.tmps[4]?=some (int i64 0)/\∃S',Goes {S with waits:=S.waits++[⟨site,seq,wall,count,d0,d1,d2,d3,ws⟩]} S'/\RPo w b G F S' w') ⟨List.toArray ((.pointer (some ⟨b,0,none⟩))::y1::y2::(.pointer (some ⟨w.heap.size,0,none⟩))::y4::y5::y6::(.bool nw)::y8::y9::y10::y11::y12::y13::y14::y15::y16::y17::y18::y19::y20::y21::y22::y23::y24::y25::y26::y27::y28::y29::y30::y31::y32::y33::y34::y35::y36::y37::y38::y39::y40::y41::y42::y43::y44::y45::y46::y47::y48::y49::y50::y51::y52::y53::y54::y55::y56::y57::y58::y59::y60::y61::y62::y63::y64::y65::y66::y67::y68::y69::y70::y71::y72::y73::y74::y75::y76::y77::y78::y79::y80::y81::y82::y83::y84::y85::y86::y87::y88::y89::y90::y91::y92::y93::y94::y95::y96::y97::y98::y99::y100::y101::y102::y103::y104::y105::y106::y107::y108::y109::y110::y111::y112::y113::y114::y115::y116::y117::y118::y119::y120::y121::y122::y123::y124::y125::y126::y127::y128::y129::y130::y131::y132::y133::y134::y135::y136::y137::y138::y139::y140::y141::y142::y143::y144::y145::y146::y147::y148::y149::y150::y151::y152::y153::y154::y155::y156::y157::y158::y159::y160::y161::y162::y163::y164::y165::y166::y167::y168::y169::y170::y171::y172::y173::y174::y175::y176::y177::y178::y179::y180::y181::y182::y183::y184::y185::y186::y187::y188::y189::y190::y191::y192::y193::y194::y195::y196::[]),[]⟩ c:=by
 have PM4:Hid (qc6 c b (.slice r log.length lc) (.slice I waits.length J) sv S log waits):=hPM;have i:Hid (log.map (·.t)=S.log/\waits.map (·.t)=S.waits/\∀k,G k↔(qap b (.slice r log.length lc) (.slice I waits.length J) sv k\/∃m∈log++waits,m.blk k)):=⟨hl,hw,hG⟩;have L:Hid (∀k,G k->k<w.heap.size):=hGL;have HF4:Hid (qfr c F log):=hF;have M:Hid (qag c w.heap.size [int i64 site,int i64 seq,int i64 wall,int i64 count,int i64 d0,int i64 d1,int i64 d2,int i64 d3,.slice a ws.length cap]):=hRB;have HW4:Hid (qat c a cap ws):=hW4;have U:Hid (1<=ws.length/\ws.length<=5):=sw
 have HLN:Hid (waits.length<=1000):=by show _<=_;omega
 have HN9:Hid (waits.length<=900):=hn;have HI:Hid (qcr {S with waits:=S.waits++[⟨site,seq,wall,count,d0,d1,d2,d3,ws⟩]}):=hI;obtain⟨la',lc',el,hLT⟩:=qa6 hPM.rlog;obtain⟨va',vc',ev,hVT⟩:=qa6 hPM.rwait;injection el with el1 el2 el3;injection ev with ev1 ev2 ev3;subst el1 el3 ev1 ev3;have hvl:=hVT.len;have hvc:=hVT.cap;have hll:=hLT.len;have hlc:=hLT.cap;have s7:=hPM.box.cell 7 _ rfl;have s8:=hPM.box.cell 8 _ rfl
 have s:¬(200:Int)<=(log.length:Int):=by omega
 clear hPM hl hw hG hF hGL hRB hW4 sw hn hI hLT hVT el2 ev2 hf
 conv=>arg 2;whnf
 by_cases g4:waits.length<40
 ·have g40:¬(40:Int)<=(waits.length:Int):=by omega
  clear h40 g4
  obtain⟨C,D,haa,hcc⟩:∃C D,a=some ⟨C,D,none⟩/\qcy c C D ws:=by
   rcases HW4.out.held with V|V
   ·exfalso
    have:=U.out;rw[V]at this;simp at this
   ·exact V
  have v:=M.out.cell 8 _ rfl;have f8:=M.out.free 8 (by simp);have HN4:Hid (∀j u,(qf4 ws)[j]?=some u->(c.alloc (.cells #[] 34)).cell? ((⟨C,D,none⟩:Addr).add j)=some u):=qo3 (hcc.later (boxed (Below.refl _ c) _));have own0:=qh1 c 34 rfl c.heap.size (Nat.le_refl _);obtain⟨i0,hi,hz0,hz1,hz2⟩:=info_parts qmx;have lt8:=M.out.lt;clear hcc;rw[haa]at v
  go_wp2_with (at_builtin;refine wpList_append_lies _ rfl (.tmp 94) (.tmp 96) 65 rfl c.heap.size 34 i0 (.agg #[int i64 0,.string ⟨#[]⟩,.bool false]) 3 32 Tryz.underlying65 hi hz0 hz1 hz2 rfl (by decide) (.slice (some ⟨c.heap.size,0,none⟩) 0 0) 0 [] rfl own0 ⟨C,D,none⟩ ws.length cap (qf4 ws) rfl (qdq ws) HN4.out (qih ws) (by have:=U.out;omega) (by have:=U.out;simp only[maxLen];omega) (by have:=U.out;omega) (by simp) _ rfl ?_;intro g d q W E egE ltE;have N:=(M.out.boxed (.cells #[] 34)).grown E (λe=>by simp[Value.ownBlock]at e<;>omega);have f8E:=N.free 8 (by simp);have t8E:=N.cell 8 _ rfl)
  have Y:Hid (c.heap.size<=g/\g<q.heap.size):=⟨by rcases egE with h|h<;>simp[Value.ownBlock]at h<;>omega,ltE⟩;have hbE:Below w.heap.size w q:=(boxed K (.cells #[] 34)).grown E (by have:=K.size;simp;omega) (λj hj=>by have:=K.size;simp[Value.ownBlock]at hj;omega)
  have WGE:qat q (some ⟨g,0,none⟩) d ws:=by
   rw[Nat.zero_add,List.nil_append]at W;obtain⟨a9,c9,e9,hW9⟩:=qcw W;injection e9 with H e2 e3;subst H e3;exact hW9
  have O:=hbE.setCell (p:=⟨w.heap.size,8,none⟩) (Nat.le_refl _) (.slice (some ⟨g,0,none⟩) ws.length d);have Z:qag (q.setCell ⟨w.heap.size,8,none⟩ (.slice (some ⟨g,0,none⟩) ws.length d)) w.heap.size [int i64 site,int i64 seq,int i64 wall,int i64 count,int i64 d0,int i64 d1,int i64 d2,int i64 d3,.slice (some ⟨g,0,none⟩) ws.length d]:=N.set 8 _ (by simp);have P:Hid (∀k,k≠w.heap.size->k<c.heap.size->(q.setCell ⟨w.heap.size,8,none⟩ (.slice (some ⟨g,0,none⟩) ws.length d)).heap[k]?=c.heap[k]?):=λk f hl=>(Below.heap_setCell _ _ _ _ f).trans ((E.block k (by simp;omega) (λe=>by simp[Value.ownBlock]at e;omega)).trans (Below.heap_alloc _ _ _ hl));have aa:qat (q.setCell ⟨w.heap.size,8,none⟩ (.slice (some ⟨g,0,none⟩) ws.length d)) (some ⟨g,0,none⟩) d ws:=qat.kept (m:=⟨⟨site,seq,wall,count,d0,d1,d2,d3,ws⟩,some ⟨g,0,none⟩,d⟩) (w:=q) WGE (λk e=>Below.heap_setCell _ _ _ _ (by obtain⟨_,o,e⟩:=e;injection e with e;injection e with e;have:=Y.out;simp only;omega));obtain⟨n,Q⟩:∃n,q.setCell ⟨w.heap.size,8,none⟩ (.slice (some ⟨g,0,none⟩) ws.length d)=n:=⟨_,rfl⟩;rw[Q]at O Z P aa ⊢
  have hs5:c.heap.size<=n.heap.size:=by rw[<-Q];have:=E.size;simp[World.setCell]at this ⊢;omega
  have y:Hid (qc6 n b (.slice r log.length lc) (.slice I waits.length J) sv S log waits):=PM4.out.keptB (λk f=>P.out k (by have:=L.out k ((i.out.2.2 k).2 f);omega) (by have:=L.out k ((i.out.2.2 k).2 f);have:=K.size;omega)) hs5;have FR5:Hid (qfr n F log):=HF4.out.to (λm hm k e=>have f:qap b (.slice r log.length lc) (.slice I waits.length J) sv k\/∃m∈log++waits,m.blk k:=.inr ⟨m,List.mem_append.2 (.inl hm),e⟩;P.out k (by have:=L.out k ((i.out.2.2 k).2 f);omega) (by have:=L.out k ((i.out.2.2 k).2 f);have:=K.size;omega)) (λ_ h=>h)
  have HV5:Hid (qec n I J waits):=by
   obtain⟨va',vc',ev,hv⟩:=qa6 y.out.rwait;injection ev with H e2 e3;rw[H,e3];exact hv
  have R:Hid (qat n (some ⟨g,0,none⟩) d ws/\w.heap.size<g/\g<n.heap.size):=⟨aa,by have:=Y.out;omega,by rw[<-Q];have:=Y.out;simp[World.setCell];omega⟩;clear Q W E egE ltE N f8E t8E own0 v f8 hbE WGE aa s7 s8 HN4 hs5 P hi hz0 hz1 hz2;refine qkl (qmo n HV5 HLN Z (y.out.box.cell 8 _ rfl) (y.out.box.free 8 (by simp[qcf])) _ ?_);intro u99 u100 u101 u102 u103 u104 u105 u106 u107 u108 u109 u110 w7 T c2 hb7 hg1 hg2 own7;rw[<-qgv]at own7
  have HBK:Hid (∀k,TxM.blk ⟨⟨site,seq,wall,count,d0,d1,d2,d3,ws⟩,some ⟨g,0,none⟩,d⟩ k->k=g):=λk e=>by obtain⟨_,o,e⟩:=e;injection e with e;injection e with e;exact e.symm
  obtain⟨P7,T7,F7⟩:=y.out.reset hb7 hg1 own7 (by simp) (λm hm=>by
   rcases List.mem_append.1 hm with l|l
   ·exact .inl l
   ·rw[List.mem_singleton.1 l];refine .inr ⟨R.out.1,λk e hf=>?_⟩;have H:=HBK.out k e;have:=L.out k ((i.out.2.2 k).2 (.inl hf));have:=R.out
    omega) (S.waits++[⟨site,seq,wall,count,d0,d1,d2,d3,ws⟩])
  have fr8:=FR5.out.touch y.out T7 (λ_ h=>h);have v:=(qae.ofBelow (F:=G) O).more T7 (λk f=>.inl ((i.out.2.2 k).2 (.inl f)))
  have g8:∀k,(qap b (.slice r log.length lc) (.slice (some ⟨T,0,none⟩) (waits.length+1) c2) sv k\/∃m∈log++(waits++[⟨⟨site,seq,wall,count,d0,d1,d2,d3,ws⟩,some ⟨g,0,none⟩,d⟩]),m.blk k)->G k\/w.heap.size<=k:=λk f=>by
   rcases f with l|⟨x,hx,l⟩
   ·rcases F7 k l with s|s
    ·exact .inl ((i.out.2.2 k).2 (.inl s))
    ·exact .inr (by have:=O.size;omega)
   ·rcases List.mem_append.1 hx with s|s
    ·exact .inl ((i.out.2.2 k).2 (.inr ⟨x,List.mem_append.2 (.inl s),l⟩))
    ·rcases List.mem_append.1 s with h3|h3
     ·exact .inl ((i.out.2.2 k).2 (.inr ⟨x,List.mem_append.2 (.inr h3),l⟩))
     ·rw[List.mem_singleton.1 h3]at l;have H:=HBK.out k l;have:=R.out;exact .inr (by omega)
  obtain⟨z,hW8⟩:∃z,w7.setCell ⟨b,8,none⟩ (.slice (some ⟨T,0,none⟩) (waits.length+1) c2)=z:=⟨_,rfl⟩;rw[hW8]at P7 v fr8 ⊢
  have M0:qwq z b (λk=>qap b (.slice r log.length lc) (.slice (some ⟨T,0,none⟩) (waits.length+1) c2) sv k\/∃m∈log++(waits++[⟨⟨site,seq,wall,count,d0,d1,d2,d3,ws⟩,some ⟨g,0,none⟩,d⟩]),m.blk k) F {S with waits:=S.waits++[⟨site,seq,wall,count,d0,d1,d2,d3,ws⟩]} {S with waits:=S.waits++[⟨site,seq,wall,count,d0,d1,d2,d3,ws⟩]} z:=
   ⟨⟨_,⟨_,_,_,log,waits++[⟨⟨site,seq,wall,count,d0,d1,d2,d3,ws⟩,some ⟨g,0,none⟩,d⟩],P7,i.out.1,by rw[List.map_append,i.out.2.1];rfl,λk=>Iff.rfl,fr8⟩,λk f=>.inl f⟩,⟨rfl,rfl,rfl,Nat.le_refl _,λ_ _ _=>rfl⟩,HI.out,by show (S.waits++[_]).length<=1000;rw[<-i.out.2.1];have:=HN9.out;simp;omega,λX hX=>hX⟩
  have HFI:Hid (∀S' B,RPo z b (λk=>qap b (.slice r log.length lc) (.slice (some ⟨T,0,none⟩) (waits.length+1) c2) sv k\/∃m∈log++(waits++[⟨⟨site,seq,wall,count,d0,d1,d2,d3,ws⟩,some ⟨g,0,none⟩,d⟩]),m.blk k) F S' B->RPo w b G F S' B):=λS' B hp=>RPo.trans g8 v hp;clear hW8 P7 T7 F7 fr8 FR5 v g8 hb7 hg1 hg2 own7 O Z y HV5 R HBK PM4 M
  go_wp2_with fail
  refine qka (qnq z M0 _ ?_);intro u8 u9 u10 u11 u111 u112 u113 u114 u115 u116 u117 u118 u119 u120 u121 u122 u123 u124 u125 u126 u127 u128 u129 u130 u131 u132 u133 u134 u135 u136 u137 u138 u139 u140 u141 u142 u143 u144 u145 u146 u147 u148 u149 u150 u151 u152 u153 u154 u155 u156 u157 u158 u159 u160 u161 u162 u163 u164 u165 u166 u167 u168 u169 u170 u171 u172 u173 u174 u175 u176 u177 u178 u179 u180 u181 u182 u183 u184 u185 u186 u187 u188 u189 u190 u191 u192 u193 u194 u195 u196 S' B hGo hPo;have FIN:Hid (∃S',Goes {S with waits:=S.waits++[⟨site,seq,wall,count,d0,d1,d2,d3,ws⟩]} S'/\RPo w b G F S' B):=⟨S',hGo,HFI.out S' B hPo⟩;clear hGo hPo M0 HFI
  go_wp2_with fail
  exact FIN.out
 ·have g40:(40:Int)<=(waits.length:Int):=by omega
  have hnw:nw=true:=h40.resolve_left g4;subst hnw;clear h40 g4
  obtain⟨C,D,haa,hcc⟩:∃C D,a=some ⟨C,D,none⟩/\qcy c C D ws:=by
   rcases HW4.out.held with V|V
   ·exfalso
    have:=U.out;rw[V]at this;simp at this
   ·exact V
  have v:=M.out.cell 8 _ rfl;have f8:=M.out.free 8 (by simp);have HN4:Hid (∀j u,(qf4 ws)[j]?=some u->(c.alloc (.cells #[] 34)).cell? ((⟨C,D,none⟩:Addr).add j)=some u):=qo3 (hcc.later (boxed (Below.refl _ c) _));have own0:=qh1 c 34 rfl c.heap.size (Nat.le_refl _);obtain⟨i0,hi,hz0,hz1,hz2⟩:=info_parts qmx;have lt8:=M.out.lt;clear hcc;rw[haa]at v
  go_wp2_with (at_builtin;refine wpList_append_lies _ rfl (.tmp 94) (.tmp 96) 65 rfl c.heap.size 34 i0 (.agg #[int i64 0,.string ⟨#[]⟩,.bool false]) 3 32 Tryz.underlying65 hi hz0 hz1 hz2 rfl (by decide) (.slice (some ⟨c.heap.size,0,none⟩) 0 0) 0 [] rfl own0 ⟨C,D,none⟩ ws.length cap (qf4 ws) rfl (qdq ws) HN4.out (qih ws) (by have:=U.out;omega) (by have:=U.out;simp only[maxLen];omega) (by have:=U.out;omega) (by simp) _ rfl ?_;intro g d q W E egE ltE;have N:=(M.out.boxed (.cells #[] 34)).grown E (λe=>by simp[Value.ownBlock]at e<;>omega);have f8E:=N.free 8 (by simp);have t8E:=N.cell 8 _ rfl)
  have Y:Hid (c.heap.size<=g/\g<q.heap.size):=⟨by rcases egE with h|h<;>simp[Value.ownBlock]at h<;>omega,ltE⟩;have hbE:Below w.heap.size w q:=(boxed K (.cells #[] 34)).grown E (by have:=K.size;simp;omega) (λj hj=>by have:=K.size;simp[Value.ownBlock]at hj;omega)
  have WGE:qat q (some ⟨g,0,none⟩) d ws:=by
   rw[Nat.zero_add,List.nil_append]at W;obtain⟨a9,c9,e9,hW9⟩:=qcw W;injection e9 with H e2 e3;subst H e3;exact hW9
  have O:=hbE.setCell (p:=⟨w.heap.size,8,none⟩) (Nat.le_refl _) (.slice (some ⟨g,0,none⟩) ws.length d);have Z:qag (q.setCell ⟨w.heap.size,8,none⟩ (.slice (some ⟨g,0,none⟩) ws.length d)) w.heap.size [int i64 site,int i64 seq,int i64 wall,int i64 count,int i64 d0,int i64 d1,int i64 d2,int i64 d3,.slice (some ⟨g,0,none⟩) ws.length d]:=N.set 8 _ (by simp);have P:Hid (∀k,k≠w.heap.size->k<c.heap.size->(q.setCell ⟨w.heap.size,8,none⟩ (.slice (some ⟨g,0,none⟩) ws.length d)).heap[k]?=c.heap[k]?):=λk f hl=>(Below.heap_setCell _ _ _ _ f).trans ((E.block k (by simp;omega) (λe=>by simp[Value.ownBlock]at e;omega)).trans (Below.heap_alloc _ _ _ hl));have aa:qat (q.setCell ⟨w.heap.size,8,none⟩ (.slice (some ⟨g,0,none⟩) ws.length d)) (some ⟨g,0,none⟩) d ws:=qat.kept (m:=⟨⟨site,seq,wall,count,d0,d1,d2,d3,ws⟩,some ⟨g,0,none⟩,d⟩) (w:=q) WGE (λk e=>Below.heap_setCell _ _ _ _ (by obtain⟨_,o,e⟩:=e;injection e with e;injection e with e;have:=Y.out;simp only;omega));obtain⟨n,Q⟩:∃n,q.setCell ⟨w.heap.size,8,none⟩ (.slice (some ⟨g,0,none⟩) ws.length d)=n:=⟨_,rfl⟩;rw[Q]at O Z P aa ⊢
  have hs5:c.heap.size<=n.heap.size:=by rw[<-Q];have:=E.size;simp[World.setCell]at this ⊢;omega
  have y:Hid (qc6 n b (.slice r log.length lc) (.slice I waits.length J) sv S log waits):=PM4.out.keptB (λk f=>P.out k (by have:=L.out k ((i.out.2.2 k).2 f);omega) (by have:=L.out k ((i.out.2.2 k).2 f);have:=K.size;omega)) hs5;have FR5:Hid (qfr n F log):=HF4.out.to (λm hm k e=>have f:qap b (.slice r log.length lc) (.slice I waits.length J) sv k\/∃m∈log++waits,m.blk k:=.inr ⟨m,List.mem_append.2 (.inl hm),e⟩;P.out k (by have:=L.out k ((i.out.2.2 k).2 f);omega) (by have:=L.out k ((i.out.2.2 k).2 f);have:=K.size;omega)) (λ_ h=>h)
  have HV5:Hid (qec n I J waits):=by
   obtain⟨va',vc',ev,hv⟩:=qa6 y.out.rwait;injection ev with H e2 e3;rw[H,e3];exact hv
  have R:Hid (qat n (some ⟨g,0,none⟩) d ws/\w.heap.size<g/\g<n.heap.size):=⟨aa,by have:=Y.out;omega,by rw[<-Q];have:=Y.out;simp[World.setCell];omega⟩;clear Q W E egE ltE N f8E t8E own0 v f8 hbE WGE aa s7 s8 HN4 hs5 P hi hz0 hz1 hz2;refine qkl (qmo n HV5 HLN Z (y.out.box.cell 8 _ rfl) (y.out.box.free 8 (by simp[qcf])) _ ?_);intro u99 u100 u101 u102 u103 u104 u105 u106 u107 u108 u109 u110 w7 T c2 hb7 hg1 hg2 own7;rw[<-qgv]at own7
  have HBK:Hid (∀k,TxM.blk ⟨⟨site,seq,wall,count,d0,d1,d2,d3,ws⟩,some ⟨g,0,none⟩,d⟩ k->k=g):=λk e=>by obtain⟨_,o,e⟩:=e;injection e with e;injection e with e;exact e.symm
  obtain⟨P7,T7,F7⟩:=y.out.reset hb7 hg1 own7 (by simp) (λm hm=>by
   rcases List.mem_append.1 hm with l|l
   ·exact .inl l
   ·rw[List.mem_singleton.1 l];refine .inr ⟨R.out.1,λk e hf=>?_⟩;have H:=HBK.out k e;have:=L.out k ((i.out.2.2 k).2 (.inl hf));have:=R.out
    omega) (S.waits++[⟨site,seq,wall,count,d0,d1,d2,d3,ws⟩])
  have fr8:=FR5.out.touch y.out T7 (λ_ h=>h);have v:=(qae.ofBelow (F:=G) O).more T7 (λk f=>.inl ((i.out.2.2 k).2 (.inl f)))
  have g8:∀k,(qap b (.slice r log.length lc) (.slice (some ⟨T,0,none⟩) (waits.length+1) c2) sv k\/∃m∈log++(waits++[⟨⟨site,seq,wall,count,d0,d1,d2,d3,ws⟩,some ⟨g,0,none⟩,d⟩]),m.blk k)->G k\/w.heap.size<=k:=λk f=>by
   rcases f with l|⟨x,hx,l⟩
   ·rcases F7 k l with s|s
    ·exact .inl ((i.out.2.2 k).2 (.inl s))
    ·exact .inr (by have:=O.size;omega)
   ·rcases List.mem_append.1 hx with s|s
    ·exact .inl ((i.out.2.2 k).2 (.inr ⟨x,List.mem_append.2 (.inl s),l⟩))
    ·rcases List.mem_append.1 s with h3|h3
     ·exact .inl ((i.out.2.2 k).2 (.inr ⟨x,List.mem_append.2 (.inr h3),l⟩))
     ·rw[List.mem_singleton.1 h3]at l;have H:=HBK.out k l;have:=R.out;exact .inr (by omega)
  obtain⟨z,hW8⟩:∃z,w7.setCell ⟨b,8,none⟩ (.slice (some ⟨T,0,none⟩) (waits.length+1) c2)=z:=⟨_,rfl⟩;rw[hW8]at P7 v fr8 ⊢
  have M0:qwq z b (λk=>qap b (.slice r log.length lc) (.slice (some ⟨T,0,none⟩) (waits.length+1) c2) sv k\/∃m∈log++(waits++[⟨⟨site,seq,wall,count,d0,d1,d2,d3,ws⟩,some ⟨g,0,none⟩,d⟩]),m.blk k) F {S with waits:=S.waits++[⟨site,seq,wall,count,d0,d1,d2,d3,ws⟩]} {S with waits:=S.waits++[⟨site,seq,wall,count,d0,d1,d2,d3,ws⟩]} z:=
   ⟨⟨_,⟨_,_,_,log,waits++[⟨⟨site,seq,wall,count,d0,d1,d2,d3,ws⟩,some ⟨g,0,none⟩,d⟩],P7,i.out.1,by rw[List.map_append,i.out.2.1];rfl,λk=>Iff.rfl,fr8⟩,λk f=>.inl f⟩,⟨rfl,rfl,rfl,Nat.le_refl _,λ_ _ _=>rfl⟩,HI.out,by show (S.waits++[_]).length<=1000;rw[<-i.out.2.1];have:=HN9.out;simp;omega,λX hX=>hX⟩
  have HFI:Hid (∀S' B,RPo z b (λk=>qap b (.slice r log.length lc) (.slice (some ⟨T,0,none⟩) (waits.length+1) c2) sv k\/∃m∈log++(waits++[⟨⟨site,seq,wall,count,d0,d1,d2,d3,ws⟩,some ⟨g,0,none⟩,d⟩]),m.blk k) F S' B->RPo w b G F S' B):=λS' B hp=>RPo.trans g8 v hp;clear hW8 P7 T7 F7 fr8 FR5 v g8 hb7 hg1 hg2 own7 O Z y HV5 R HBK PM4 M
  go_wp2_with fail
  refine qka (qnq z M0 _ ?_);intro u8 u9 u10 u11 u111 u112 u113 u114 u115 u116 u117 u118 u119 u120 u121 u122 u123 u124 u125 u126 u127 u128 u129 u130 u131 u132 u133 u134 u135 u136 u137 u138 u139 u140 u141 u142 u143 u144 u145 u146 u147 u148 u149 u150 u151 u152 u153 u154 u155 u156 u157 u158 u159 u160 u161 u162 u163 u164 u165 u166 u167 u168 u169 u170 u171 u172 u173 u174 u175 u176 u177 u178 u179 u180 u181 u182 u183 u184 u185 u186 u187 u188 u189 u190 u191 u192 u193 u194 u195 u196 S' B hGo hPo;have FIN:Hid (∃S',Goes {S with waits:=S.waits++[⟨site,seq,wall,count,d0,d1,d2,d3,ws⟩]} S'/\RPo w b G F S' B):=⟨S',hGo,HFI.out S' B hPo⟩;clear hGo hPo M0 HFI
  go_wp2_with fail
  exact FIN.out
end
section
open Go.Value Go.IntKind
theorem qfe {tmps:Array Value} {v:Value} (w:World) (h:tmps[4]?=some v):(results Tryz.f84 tmps).run Tryz.prog w=.ok v w:=by
 simp[results,Tryz.results84,go_sem,h]
variable {b:Nat} {G:Nat->Prop} {F:Nat->Option Obj} {S:qaf}
theorem qsp (m:TxM) (w:World) (h:RS w b G F S) (hI:qcr S) (hn:S.waits.length<=900) (hW:qat w m.wa m.wc m.t.ws) (hnz:qa2 S m.t=0):
 Calls Tryz.prog 84 #[.pointer (some ⟨b,0,none⟩),txV m] w λe w'=>e=.returned (int i64 (qa2 S m.t))/\∃S',qbu S m.t S'/\RPo w b G F S' w':=by
 obtain⟨⟨site,seq,wall,count,d0,d1,d2,d3,ws⟩,a,cap⟩:=m;simp only at hW hnz ⊢;have n:Hid (qa2 S ⟨site,seq,wall,count,d0,d1,d2,d3,ws⟩=0):=hnz;clear hnz;have hb:=boxed (Below.refl _ w) (.cells #[int i64 site,int i64 seq,int i64 wall,int i64 count,int i64 d0,int i64 d1,int i64 d2,int i64 d3,.slice a ws.length cap] 80);have p:=qag.new (w:=w) (T:=80) [int i64 site,int i64 seq,int i64 wall,int i64 count,int i64 d0,int i64 d1,int i64 d2,int i64 d3,.slice a ws.length cap] rfl;change qag (w.alloc (.cells #[int i64 site,int i64 seq,int i64 wall,int i64 count,int i64 d0,int i64 d1,int i64 d2,int i64 d3,.slice a ws.length cap] 80)) w.heap.size [int i64 site,int i64 seq,int i64 wall,int i64 count,int i64 d0,int i64 d1,int i64 d2,int i64 d3,.slice a ws.length cap]at p;have hne:=Later.one;have P1:=h.later hb;have W1:=hW.later hb;have HGL:Hid (∀k,G k->k<w.heap.size):=h.lt;clear h hW;show Calls Tryz.prog 84 #[.pointer (some ⟨b,0,none⟩),.agg #[int i64 site,int i64 seq,int i64 wall,int i64 count,int i64 d0,int i64 d1,int i64 d2,int i64 d3,.slice a ws.length cap]] w _;obtain⟨lv,wv,sv,log,waits,PM,hl,hw,hG,hF⟩:=id P1;obtain⟨I,lc,rfl,hLT⟩:=qa6 PM.rlog;obtain⟨B,J,rfl,hVT⟩:=qa6 PM.rwait;have k0:=Later.cell (PM.box.cell 0 _ rfl);have M:=Later.cell (p.cell 0 _ rfl);have N:=Later.cell (p.cell 1 _ rfl);have t2:=Later.cell (p.cell 2 _ rfl);have t3:=Later.cell (p.cell 3 _ rfl);have t4:=Later.cell (p.cell 4 _ rfl);have t5:=Later.cell (p.cell 5 _ rfl);have t6:=Later.cell (p.cell 6 _ rfl);have t7:=Later.cell (p.cell 7 _ rfl);have t8:=Later.cell (p.cell 8 _ rfl);cases hok:okT ⟨site,seq,wall,count,d0,d1,d2,d3,ws⟩
 ·have HK:Hid (qc7 site seq wall count d0 d1 d2 d3 ws=false):=hok
  have E:qa2 S ⟨site,seq,wall,count,d0,d1,d2,d3,ws⟩=1:=by unfold qa2;rw[if_pos hok]
  exact absurd (n.out.symm.trans E) (by decide)
 ·have HK:Hid (qc7 site seq wall count d0 d1 d2 d3 ws=true):=hok;obtain⟨⟨s0,s3⟩,⟨sq1,sq2⟩,sw⟩:=qdn hok;simp only at s0 s3 sq1 sq2 sw;have HOK:Hid (okT ⟨site,seq,wall,count,d0,d1,d2,d3,ws⟩=true):=hok;clear hok;by_cases hid:site=S.id
  ·have E:qa2 S ⟨site,seq,wall,count,d0,d1,d2,d3,ws⟩=1:=by unfold qa2;rw[if_neg (by rw[HOK.out];decide),if_pos hid]
   exact absurd (n.out.symm.trans E) (by decide)
  ·have i1:(site==S.id)=false:=by simp[hid]
   have i2:decide (site=S.id)=false:=by simp[hid]
   have HID:Hid (¬site=S.id):=hid;have d:Hid (qc6 (w.alloc (.cells #[int i64 site,int i64 seq,int i64 wall,int i64 count,int i64 d0,int i64 d1,int i64 d2,int i64 d3,.slice a ws.length cap] 80)) b (.slice I log.length lc) (.slice B waits.length J) sv S log waits/\log.map (·.t)=S.log/\waits.map (·.t)=S.waits/\∀k,G k↔(qap b (.slice I log.length lc) (.slice B waits.length J) sv k\/∃m∈log++waits,m.blk k)):=⟨PM,hl,hw,hG⟩;have HI:Hid (qcr S):=hI;have HFR:Hid (qfr _ F log):=hF;have HVT:Hid (qec (w.alloc (.cells #[int i64 site,int i64 seq,int i64 wall,int i64 count,int i64 d0,int i64 d1,int i64 d2,int i64 d3,.slice a ws.length cap] 80)) B J waits/\qec (w.alloc (.cells #[int i64 site,int i64 seq,int i64 wall,int i64 count,int i64 d0,int i64 d1,int i64 d2,int i64 d3,.slice a ws.length cap] 80)) I lc log):=⟨hVT,hLT⟩;have hvl:=hVT.len;have hvc:=hVT.cap;have hll:=hLT.len;have hlc:=hLT.cap;clear PM hl hw hG hF P1 hI hid hVT hLT;go_enter Tryz.func84,Tryz.ntmps84
   go_wp2_with fail
   refine qaa (by kernel_rfl) (by kernel_rfl) ?_
   repeat (go_big_quiet_step (first|rfl|(go_at_call 115;with_reducible exact qab (qev (W1.later (Later.below _)) HK.out))))
   refine wpQuiet_nil ?_;rintro w2 ⟨⟨_,hb2⟩,rfl⟩;clear M N t2 t3 t4 t5 t6 t7 t8 k0;have PM2:Hid (qc6 w2 b (.slice I log.length lc) (.slice B waits.length J) sv S log waits):=d.out.1.later hb2;have RB2:=p.later hb2;have hbw:=qac hb hb2;have HB2:Hid (Below (w.alloc (.cells #[int i64 site,int i64 seq,int i64 wall,int i64 count,int i64 d0,int i64 d1,int i64 d2,int i64 d3,.slice a ws.length cap] 80)).heap.size (w.alloc (.cells #[int i64 site,int i64 seq,int i64 wall,int i64 count,int i64 d0,int i64 d1,int i64 d2,int i64 d3,.slice a ws.length cap] 80)) w2):=hb2;clear p hb hb2;have M:=Later.cell (RB2.cell 0 _ rfl);have N:=Later.cell (RB2.cell 1 _ rfl);have Q:=Later.cell (qkw PM2.out.box s0 s3)
   have s4:site<4:=by omega
   obtain⟨D,hD⟩:∃D,qao site S.a0 S.a1 S.a2 S.a3=D:=⟨_,rfl⟩;have X:Hid (qao site S.a0 S.a1 S.a2 S.a3=D):=hD;rw[hD]at Q;clear hD;by_cases hle:seq<=D
   ·have E:qa2 S ⟨site,seq,wall,count,d0,d1,d2,d3,ws⟩=9:=by unfold qa2;rw[if_neg (by rw[HOK.out];decide),if_neg HID.out,if_pos (by rw[X.out];exact hle)]
    exact absurd (n.out.symm.trans E) (by decide)
   ·have HLE:Hid (D<seq):=by show _<_;omega
    have q1:decide (seq<=D)=false:=decide_eq_false hle;clear hle
    go_wp2_with fail
    refine qaa (by kernel_rfl) (by kernel_rfl) ?_
    repeat (go_big_quiet_step (first|rfl|fail))
    refine wpQuiet_nil ?_;rintro w3 ⟨⟨_,hb3⟩,rfl⟩;have PM3:Hid (qc6 w3 b (.slice I log.length lc) (.slice B waits.length J) sv S log waits):=PM2.out.later hb3;have RB3:Hid (qag w3 w.heap.size [int i64 site,int i64 seq,int i64 wall,int i64 count,int i64 d0,int i64 d1,int i64 d2,int i64 d3,.slice a ws.length cap]):=RB2.later hb3;have hbw3:=qac hbw hb3;have HB3:Hid (Below (w.alloc (.cells #[int i64 site,int i64 seq,int i64 wall,int i64 count,int i64 d0,int i64 d1,int i64 d2,int i64 d3,.slice a ws.length cap] 80)).heap.size (w.alloc (.cells #[int i64 site,int i64 seq,int i64 wall,int i64 count,int i64 d0,int i64 d1,int i64 d2,int i64 d3,.slice a ws.length cap] 80)) w3):=qac HB2.out hb3;clear RB2 hbw hb3 M N Q PM2 HB2;have s8:=PM3.out.box.cell 8 _ rfl
    go_wp2_with fail
    go_loopw [39] (λiv wr=>∃(k:Nat) (z:Int),k<=waits.length/\z=k/\iv=int i64 z/\Hid (∀j x,j<k->waits[j]?=some x->qb5 x.t ⟨site,seq,wall,count,d0,d1,d2,d3,ws⟩=false)/\Below w3.heap.size w3 wr) (λi _=>waits.length-(intOf i).toNat)
    case atStart=>exact⟨0,0,by omega,rfl,rfl,(λj x hj=>by omega),Below.refl _ _⟩
    case round=>
     obtain⟨k,z,hk,hz,rfl,HNM,K⟩:=hrel;have HZ:Hid (z=k):=hz;by_cases hlt:k<waits.length
     ·have R:z<(waits.length:Int):=by omega
      have Y:z.toNat=k:=by omega
      have g3:0<=z:=by omega
      clear hz
      obtain⟨wb,off,hwa,hcc⟩:∃wb off,B=some ⟨wb,off,none⟩/\∀i m r u,waits[i]?=some m->(txC m)[r]?=some u->(w.alloc (.cells #[int i64 site,int i64 seq,int i64 wall,int i64 count,int i64 d0,int i64 d1,int i64 d2,int i64 d3,.slice a ws.length cap] 80)).cell? ⟨wb,off+(i*9+r),none⟩=some u:=by
          rcases HVT.out.1.held with e|e
          ·rw[e]at hlt;simp at hlt
          ·exact e
      obtain⟨⟨⟨xs,U,xw,xc,y0,y1,y2,y3,yw⟩,ya,yc⟩,c⟩:∃m,waits[k]?=some m:=⟨waits[k],List.getElem?_eq_getElem hlt⟩;have HX:Hid (waits[k]?=some ⟨⟨xs,U,xw,xc,y0,y1,y2,y3,yw⟩,ya,yc⟩):=c;have C:=λr u (hu:(txC ⟨⟨xs,U,xw,xc,y0,y1,y2,y3,yw⟩,ya,yc⟩)[r]?=some u)=>(show wr.cell? ⟨wb,off+k*9+r,none⟩=some u by rw[Nat.add_assoc];exact cell_later (qac HB3.out K) (hcc k _ r u c hu));have x0:=C 0 _ rfl;have x1:=C 1 _ rfl;have x2:=C 2 _ rfl;have x3:=C 3 _ rfl;have x4:=C 4 _ rfl;have x5:=C 5 _ rfl;have x6:=C 6 _ rfl;have x7:=C 7 _ rfl;have x8:=C 8 _ rfl;rw[Nat.add_zero]at x0;have g:=RB3.out.later K;have M:=g.cell 0 _ rfl;have N:=g.cell 1 _ rfl;have lt0:=g.lt;rw[hwa];clear C hcc c g;by_cases V:xs=site
      ·by_cases q:U=seq
       ·have O:(xs==site)=true:=by simp[V]
        have W:(U==seq)=true:=by simp[q]
        have E:qa2 S ⟨site,seq,wall,count,d0,d1,d2,d3,ws⟩=9:=by
              unfold qa2;rw[if_neg (by rw[HOK.out];decide),if_neg HID.out,if_neg (by rw[X.out];have:=HLE.out;simp only;omega),if_pos];rw[<-d.out.2.2.1];exact List.any_eq_true.2 ⟨_,List.mem_map.2 ⟨_,List.mem_of_getElem? HX.out,rfl⟩,qe6.2 ⟨V,q⟩⟩
        exact absurd (n.out.symm.trans E) (by decide)
       ·have O:(xs==site)=true:=by simp[V]
        have W:(U==seq)=false:=by simp[q]
        have HNQ:Hid (qb5 ⟨xs,U,xw,xc,y0,y1,y2,y3,yw⟩ ⟨site,seq,wall,count,d0,d1,d2,d3,ws⟩=false):=by show _=_;simp[qb5,q]
        clear V q hwa
        go_wp2_with fail
        go_roundw
        case rel=>exact⟨k+1,z+1,by omega,by have:=HZ.out;omega,by go_num,(λj x hj c=>by
              rcases Nat.lt_or_ge j k with h1|h1
              ·exact HNM.out j x h1 c
              ·have:j=k:=by omega
               subst this;rw[HX.out]at c;injection c with c;subst c
               exact HNQ.out),boxed K _⟩
        case measure=>simp[intOf];have:=HZ.out;omega
      ·have O:(xs==site)=false:=by simp[V]
       have HNQ:Hid (qb5 ⟨xs,U,xw,xc,y0,y1,y2,y3,yw⟩ ⟨site,seq,wall,count,d0,d1,d2,d3,ws⟩=false):=by show _=_;simp[qb5,V]
       clear V hwa
       go_wp2_with fail
       go_roundw
       case rel=>exact⟨k+1,z+1,by omega,by have:=HZ.out;omega,by go_num,(λj x hj c=>by
           rcases Nat.lt_or_ge j k with h1|h1
           ·exact HNM.out j x h1 c
           ·have:j=k:=by omega
            subst this;rw[HX.out]at c;injection c with c;subst c
            exact HNQ.out),boxed K _⟩
       case measure=>simp[intOf];have:=HZ.out;omega
     ·have R:¬z<(waits.length:Int):=by omega
      have HNA:Hid (∀x∈waits,qb5 x.t ⟨site,seq,wall,count,d0,d1,d2,d3,ws⟩=false):=λx c=>by
          obtain⟨j,hj⟩:=List.getElem?_of_mem c;exact HNM.out j x (by have:=(List.getElem?_eq_some_iff.1 hj).1;omega) hj
      clear hz HNM;have s:Hid (qc6 wr b (.slice I log.length lc) (.slice B waits.length J) sv S log waits):=PM3.out.later K;have g:Hid (qag wr w.heap.size [int i64 site,int i64 seq,int i64 wall,int i64 count,int i64 d0,int i64 d1,int i64 d2,int i64 d3,.slice a ws.length cap]):=RB3.out.later K;have Z:=qac hbw3 K;have aa:Hid (Below (w.alloc (.cells #[int i64 site,int i64 seq,int i64 wall,int i64 count,int i64 d0,int i64 d1,int i64 d2,int i64 d3,.slice a ws.length cap] 80)).heap.size (w.alloc (.cells #[int i64 site,int i64 seq,int i64 wall,int i64 count,int i64 d0,int i64 d1,int i64 d2,int i64 d3,.slice a ws.length cap] 80)) wr):=qac HB3.out K;clear hbw3 K PM3 RB3 HB3 s8 hk;have M:=Later.cell (g.out.cell 0 _ rfl);have N:=Later.cell (g.out.cell 1 _ rfl);have t4:=Later.cell (g.out.cell 4 _ rfl);have t5:=Later.cell (g.out.cell 5 _ rfl);have t6:=Later.cell (g.out.cell 6 _ rfl);have t7:=Later.cell (g.out.cell 7 _ rfl);have Q:=Later.cell (qkw s.out.box s0 s3);have k1:=Later.cell (s.out.box.cell 1 _ rfl);have k2:=Later.cell (s.out.box.cell 2 _ rfl);have k3:=Later.cell (s.out.box.cell 3 _ rfl);have k4:=Later.cell (s.out.box.cell 4 _ rfl);rw[X.out]at Q;have hdd:=HI.out.dep site;rw[X.out]at hdd;have hwr:=qek hdd
      have hlw:waits.length=S.waits.length:=by rw[<-d.out.2.2.1];simp
      have hlg:log.length=S.log.length:=by rw[<-d.out.2.1];simp
      have H:Hid (waits.length=S.waits.length/\log.length=S.log.length/\S.waits.length<=900):=⟨hlw,hlg,hn⟩
      have HRE:Hid (qar S ⟨site,seq,wall,count,d0,d1,d2,d3,ws⟩=(decide (seq=D+1)&&qe3 S.a0 S.a1 S.a2 S.a3 d0 d1 d2 d3)):=by show qar S ⟨site,seq,wall,count,d0,d1,d2,d3,ws⟩=_;unfold qar;rw[X.out]
      have HAN:Hid (S.waits.any (λx=>qb5 x ⟨site,seq,wall,count,d0,d1,d2,d3,ws⟩)=false):=by
          show _=_;rw[<-d.out.2.2.1,List.any_eq_false];intro x c;obtain⟨y,hy,rfl⟩:=List.mem_map.1 c;rw[HNA.out y hy]
          decide
      have E0:Hid (qa2 S ⟨site,seq,wall,count,d0,d1,d2,d3,ws⟩=if 200<=log.length then 12 else if 40<=waits.length/\qar S ⟨site,seq,wall,count,d0,d1,d2,d3,ws⟩=false then 12 else 0):=by
          show qa2 S ⟨site,seq,wall,count,d0,d1,d2,d3,ws⟩=_;unfold qa2;rw[if_neg (by rw[HOK.out];decide),if_neg HID.out,if_neg (by rw[X.out];have:=HLE.out;simp only;omega),if_neg (by rw[HAN.out];decide),H.out.1,H.out.2.1]
      clear hn hdd hlw hlg;by_cases q:seq=D+1
      ·have q2:(seq==D+1)=true:=by simp[q]
       have HQ:Hid (seq=D+1):=q;clear q;cases hc:qe3 S.a0 S.a1 S.a2 S.a3 d0 d1 d2 d3
       ·have HC:Hid (qe3 S.a0 S.a1 S.a2 S.a3 d0 d1 d2 d3=false):=hc
        have HR:Hid (qar S ⟨site,seq,wall,count,d0,d1,d2,d3,ws⟩=false):=by show _=_;rw[HRE.out,hc];simp
        clear hc
        go_wp2_with fail
        refine qaa (by kernel_rfl) (by kernel_rfl) ?_
        repeat (go_big_quiet_step (first|rfl|(go_at_call 70;with_reducible exact qab (qbc HC.out _))))
        refine wpQuiet_nil ?_;rintro o ⟨⟨_,l⟩,rfl⟩;clear HQ HC q2;have PM4:Hid (qc6 o b (.slice I log.length lc) (.slice B waits.length J) sv S log waits):=s.out.later l;have RB4:Hid (qag o w.heap.size [int i64 site,int i64 seq,int i64 wall,int i64 count,int i64 d0,int i64 d1,int i64 d2,int i64 d3,.slice a ws.length cap]):=g.out.later l;have hbw4:=qac Z l;have P:Hid (Below (w.alloc (.cells #[int i64 site,int i64 seq,int i64 wall,int i64 count,int i64 d0,int i64 d1,int i64 d2,int i64 d3,.slice a ws.length cap] 80)).heap.size (w.alloc (.cells #[int i64 site,int i64 seq,int i64 wall,int i64 count,int i64 d0,int i64 d1,int i64 d2,int i64 d3,.slice a ws.length cap] 80)) o):=qac aa.out l;clear Z l s g aa M N t4 t5 t6 t7 Q k1 k2 k3 k4;obtain⟨O,W,e3,e4,e5⟩:=qew n.out
        have L:waits.length<40\/false=true:=by
              refine .inl (Nat.lt_of_not_le λL=>?_);have E:=n.out;rw[E0.out,if_neg (by have:=H.out;omega),if_pos ⟨L,HR.out⟩]at E;cases E
        go_step;go_step
        refine wp_mono (qi5 w o PM4.out d.out.2.1 d.out.2.2.1 d.out.2.2.2 (HFR.out.later d.out.1 P.out) HGL.out RB4.out (W1.later P.out) sw (by have:=H.out;omega) (HI.out.wait O W e4) hbw4 (by have:=H.out;omega) L) (λe a w' h=>?_);obtain⟨rfl,hd,ht,S',R,Y⟩:=h;exact bodyPost_ret (v:=int i64 0) (qfe w' ht) hd ⟨by rw[n.out],S',.inr ⟨n.out,R⟩,Y⟩
       ·have HC:Hid (qe3 S.a0 S.a1 S.a2 S.a3 d0 d1 d2 d3=true):=hc
        have HR:Hid (qar S ⟨site,seq,wall,count,d0,d1,d2,d3,ws⟩=true):=by show _=_;rw[HRE.out,hc,HQ.out];simp
        clear hc
        go_wp2_with fail
        refine qaa (by kernel_rfl) (by kernel_rfl) ?_
        repeat (go_big_quiet_step (first|rfl|(go_at_call 70;with_reducible exact qab (qbc HC.out _))))
        refine wpQuiet_nil ?_;rintro o ⟨⟨_,l⟩,rfl⟩;clear HQ HC q2;have PM4:Hid (qc6 o b (.slice I log.length lc) (.slice B waits.length J) sv S log waits):=s.out.later l;have RB4:Hid (qag o w.heap.size [int i64 site,int i64 seq,int i64 wall,int i64 count,int i64 d0,int i64 d1,int i64 d2,int i64 d3,.slice a ws.length cap]):=g.out.later l;have hbw4:=qac Z l;have P:Hid (Below (w.alloc (.cells #[int i64 site,int i64 seq,int i64 wall,int i64 count,int i64 d0,int i64 d1,int i64 d2,int i64 d3,.slice a ws.length cap] 80)).heap.size (w.alloc (.cells #[int i64 site,int i64 seq,int i64 wall,int i64 count,int i64 d0,int i64 d1,int i64 d2,int i64 d3,.slice a ws.length cap] 80)) o):=qac aa.out l;clear Z l s g aa M N t4 t5 t6 t7 Q k1 k2 k3 k4;obtain⟨O,W,e3,e4,e5⟩:=qew n.out;have L:waits.length<40\/true=true:=.inr rfl
        go_step;go_step
        refine wp_mono (qi5 w o PM4.out d.out.2.1 d.out.2.2.1 d.out.2.2.2 (HFR.out.later d.out.1 P.out) HGL.out RB4.out (W1.later P.out) sw (by have:=H.out;omega) (HI.out.wait O W e4) hbw4 (by have:=H.out;omega) L) (λe a w' h=>?_);obtain⟨rfl,hd,ht,S',R,Y⟩:=h;exact bodyPost_ret (v:=int i64 0) (qfe w' ht) hd ⟨by rw[n.out],S',.inr ⟨n.out,R⟩,Y⟩
      ·have q2:(seq==D+1)=false:=by simp[q]
       have HR:Hid (qar S ⟨site,seq,wall,count,d0,d1,d2,d3,ws⟩=false):=by show _=_;rw[HRE.out];simp[q]
       clear q
       go_wp2_with fail
       refine qaa (by kernel_rfl) (by kernel_rfl) ?_
       repeat (go_big_quiet_step (first|rfl|fail))
       refine wpQuiet_nil ?_;rintro o ⟨⟨_,l⟩,rfl⟩;clear q2;have PM4:Hid (qc6 o b (.slice I log.length lc) (.slice B waits.length J) sv S log waits):=s.out.later l;have RB4:Hid (qag o w.heap.size [int i64 site,int i64 seq,int i64 wall,int i64 count,int i64 d0,int i64 d1,int i64 d2,int i64 d3,.slice a ws.length cap]):=g.out.later l;have hbw4:=qac Z l;have P:Hid (Below (w.alloc (.cells #[int i64 site,int i64 seq,int i64 wall,int i64 count,int i64 d0,int i64 d1,int i64 d2,int i64 d3,.slice a ws.length cap] 80)).heap.size (w.alloc (.cells #[int i64 site,int i64 seq,int i64 wall,int i64 count,int i64 d0,int i64 d1,int i64 d2,int i64 d3,.slice a ws.length cap] 80)) o):=qac aa.out l;clear Z l s g aa M N t4 t5 t6 t7 Q k1 k2 k3 k4;obtain⟨O,W,e3,e4,e5⟩:=qew n.out
       have L:waits.length<40\/false=true:=by
           refine .inl (Nat.lt_of_not_le λL=>?_);have E:=n.out;rw[E0.out,if_neg (by have:=H.out;omega),if_pos ⟨L,HR.out⟩]at E;cases E
       go_step;go_step
       refine wp_mono (qi5 w o PM4.out d.out.2.1 d.out.2.2.1 d.out.2.2.2 (HFR.out.later d.out.1 P.out) HGL.out RB4.out (W1.later P.out) sw (by have:=H.out;omega) (HI.out.wait O W e4) hbw4 (by have:=H.out;omega) L) (λe a w' h=>?_);obtain⟨rfl,hd,ht,S',R,Y⟩:=h;exact bodyPost_ret (v:=int i64 0) (qfe w' ht) hd ⟨by rw[n.out],S',.inr ⟨n.out,R⟩,Y⟩
theorem qru (m:TxM) (w:World) (h:RS w b G F S) (a:qcr S) (c:S.waits.length<=900) (d:qat w m.wa m.wc m.t.ws):
 Calls Tryz.prog 84 #[.pointer (some ⟨b,0,none⟩),txV m] w λe w'=>e=.returned (int i64 (qa2 S m.t))/\∃S',qbu S m.t S'/\RPo w b G F S' w':=by
 by_cases g:qa2 S m.t=0
 ·exact qsp m w h a c d g
 ·exact quz m w h a c d g
end
section
variable {b:Nat} {G:Nat->Prop} {F:Nat->Option Obj} {S:qaf}
theorem qsj (a:Int) (w:World) (h:RS w b G F S):
 Calls Tryz.prog 90 #[.pointer (some ⟨b,0,none⟩),.int .i64 a] w λe w'=>
  e=.returned (.agg #[.int .i64 (qak S (qcz a)).v0,.int .i64 (qak S (qcz a)).v1,.int .i64 (qak S (qcz a)).v2,.int .i64 (qak S (qcz a)).v3])/\Below w.heap.size w w':=by
 obtain⟨lv,wv,sv,log,waits,h,_,_,_⟩:=h;exact qot a w h
theorem qyi (a0 a1 a2 a3:Int) (w:World) (h:RS w b G F S) (a:qcr S):
 Calls Tryz.prog 16 #[.pointer (some ⟨b,9,none⟩),.agg #[.int .i64 a0,.int .i64 a1,.int .i64 a2,.int .i64 a3]] w λe w'=>∃v,e=.returned v/\w'.ownsRow (w.heap.size+1) 9 1 v 8 (qfj a0 a1 a2 a3 S.l 8)/\Below w.heap.size w w':=by
 obtain⟨lv,wv,sv,log,waits,h,_,_,_⟩:=h;exact qz4 a0 a1 a2 a3 w h.st (by have:=a.len;have:=a.log;omega)
theorem qvj (x0 x1 x2 x3:Int) (w:World) (h:RS w b G F S) (c:qcr S):
 Calls Tryz.prog 91 #[.pointer (some ⟨b,9,none⟩),.agg #[.int .i64 x0,.int .i64 x1,.int .i64 x2,.int .i64 x3]] w λe w'=>e=.returned (.tuple #[])/\RPo w b G F {S with l:=qel x0 x1 x2 x3 S.l} w':=by
 obtain⟨lv,wv,sv,log,waits,h,g,i,j,k⟩:=h;refine(qu8 x0 x1 x2 x3 w h.st (by have:=c.len;have:=c.log;omega)).mono λe w' ⟨n,o⟩=>⟨n,?_⟩;obtain⟨r,p,q,d⟩:=h.store o;exact RS.of g i j p q d (k.touch h d (λ_ a=>a)) (λm a=>.inl a)
end
section
open Go.Value Go.IntKind
theorem qpz {α:Type} (f:Nat->α) (i:Nat):qb2 f i (f i)=f:=by
 funext j
 unfold qb2;split
 ·rename_i e;rw[e]
 ·rfl
theorem qqz (W:WoS) (i:Nat):setSite W i (W.S i)=W:=by
 unfold setSite;rw[qpz]
section
variable {w w':World} {b:Nat} {G:Nat->Prop} {F:Nat->Option Obj} {S:qaf} {M:RoM} {W:WoS} {Gs:Nat->Nat->Prop}
theorem RWo.stepSm (h:RWo w b M W Gs) {i:Nat} (d:i<W.n) {S':qaf} {F':Nat->Option Obj} (l:∀k o,M.F i k=some o->F' k=some o) (m:RPo w (M.bp i) (Gs i) F' S' w'):∃a,RWo w' b {M with F:=qb2 M.F i F'} (setSite W i S') a/\(∀j k,a j k->Gs j k\/w.heap.size<=k)/\qae (Gs i) w w':=by
 obtain⟨a,f,g,r,s⟩:=h.fam.stepG (ps':=qeq {M with F:=qb2 M.F i F'} (setSite W i S')) (i:=i) (by omega) (p:=qgx (M.bp i) F' S') m (by show (if i<W.n then _ else _)=_;rw[if_pos d];show qgx (M.bp i) (qb2 M.F i F' i) (qb2 W.S i S' i)=_;rw[qal,qal]) (λj t c=>by
  show (if j<W.n then qgx (M.bp j) (qb2 M.F i F' j) (qb2 W.S i S' j)else _)=(if j<W.n then _ else _);rw[qbq _ _ c,qbq _ _ c]
  rfl)
 refine⟨a,h.keep r f (λj k o t e=>?_) rfl rfl rfl rfl rfl rfl,g,s⟩;by_cases q:j=i
 ·subst q;rw[qal];exact l k o e
 ·rw[qbq _ _ q];exact e
theorem qfb.next {i w2:World} {W1 k:WoS} (h:qfb w b M Gs W1 i) (f:∀d g,RWo i b {M with yv:=d,l:=g} W1 Gs->qfb i b {M with yv:=d,l:=g} Gs k w2):qfb w b M Gs k w2:=by
 obtain⟨d,g,n,m,a⟩:=h;obtain⟨o,p,t,u,c⟩:=f d g n;have s:=a.size;refine⟨o,p,t,λq e=>?_,⟨c.os.trans a.os,c.tape.trans a.tape,c.output.trans a.output,Nat.le_trans s c.size,λq v j=>?_⟩⟩
 ·rcases u q e with r|r
  ·exact m q r
  ·exact .inr (by omega)
 ·refine(c.block q (by omega) (λe=>?_)).trans (a.block q v j);rcases e with e|e
  ·exact j (.inl e)
  ·rcases m q e with r|r
   ·exact j (.inr r)
   ·omega
theorem qc6.know {lv wv sv:Value} {log waits:List TxM} (h:qc6 w b lv wv sv S log waits) {k:Nat} (e:k<4) (x0 x1 x2 x3:Int):
 qc6 ((((w.setCell ⟨b,10+k*4,none⟩ (int i64 (qb1 (S.oth (k*4)) x0))).setCell ⟨b,10+k*4+1,none⟩ (int i64 (qb1 (S.oth (k*4+1)) x1))).setCell ⟨b,10+k*4+2,none⟩ (int i64 (qb1 (S.oth (k*4+2)) x2))).setCell ⟨b,10+k*4+3,none⟩ (int i64 (qb1 (S.oth (k*4+3)) x3))) b lv wv sv (qbi S k x0 x1 x2 x3) log waits:=by
 have a:(qcf S lv wv sv).length=26:=rfl;have a1:=h.box.set (10+k*4) (int i64 (qb1 (S.oth (k*4)) x0)) (by rw[a];omega);have a2:=a1.set (10+k*4+1) (int i64 (qb1 (S.oth (k*4+1)) x1)) (by rw[List.length_set,a];omega);have a3:=a2.set (10+k*4+2) (int i64 (qb1 (S.oth (k*4+2)) x2)) (by rw[List.length_set,List.length_set,a];omega);have c:=a3.set (10+k*4+3) (int i64 (qb1 (S.oth (k*4+3)) x3)) (by rw[List.length_set,List.length_set,List.length_set,a];omega);refine h.cells (λj d=>?_) ?_ rfl
 ·rw[Below.heap_setCell _ _ _ _ d,Below.heap_setCell _ _ _ _ d,Below.heap_setCell _ _ _ _ d,Below.heap_setCell _ _ _ _ d]
 ·match k,e with
  |0,_=>exact c
  |1,_=>exact c
  |2,_=>exact c
  |3,_=>exact c
theorem RS.know (h:RS w b G F S) {k:Nat} (l:k<4) (x0 x1 x2 x3:Int):
 RPo w b G F (qbi S k x0 x1 x2 x3) ((((w.setCell ⟨b,10+k*4,none⟩ (int i64 (qb1 (S.oth (k*4)) x0))).setCell ⟨b,10+k*4+1,none⟩ (int i64 (qb1 (S.oth (k*4+1)) x1))).setCell ⟨b,10+k*4+2,none⟩ (int i64 (qb1 (S.oth (k*4+2)) x2))).setCell ⟨b,10+k*4+3,none⟩ (int i64 (qb1 (S.oth (k*4+3)) x3))):=by
 obtain⟨lv,wv,sv,log,waits,g,m,n,i,p⟩:=h;have c:∀(w:World) (o:Nat) (u:Value),qae (λj=>j=b) w (w.setCell ⟨b,o,none⟩ u):=λw o u=>qae.setCell w ⟨b,o,none⟩ u rfl;have a:qae (λj=>j=b) w ((((w.setCell ⟨b,10+k*4,none⟩ (int i64 (qb1 (S.oth (k*4)) x0))).setCell ⟨b,10+k*4+1,none⟩ (int i64 (qb1 (S.oth (k*4+1)) x1))).setCell ⟨b,10+k*4+2,none⟩ (int i64 (qb1 (S.oth (k*4+2)) x2))).setCell ⟨b,10+k*4+3,none⟩ (int i64 (qb1 (S.oth (k*4+3)) x3))):=(((c _ _ _).trans (c _ _ _)).trans (c _ _ _)).trans (c _ _ _);refine⟨G,⟨lv,wv,sv,log,waits,g.know l x0 x1 x2 x3,m,n,i,p.touch g ⟨a.os,a.tape,a.output,a.size,λj d f=>a.block j d (λe=>f (.inl e))⟩ (λ_ q=>q)⟩,λ_ e=>.inl e,⟨a.os,a.tape,a.output,a.size,λj d f=>a.block j d (λe=>f ((i j).2 (.inl (.inl e))))⟩⟩
open Classical in
theorem qq8 (c d g i:Int) (w:World) (h:RS w b G F S) (l:qcr S):
 Calls Tryz.prog 85 #[.pointer (some ⟨b,0,none⟩),.agg #[int i64 c,int i64 d,int i64 g,int i64 i]] w λe w'=>∃v,e=.returned v/\∃(kept:List TxM) (F':Nat->Option Obj),kept.map (·.t)=qf0 S c d g i/\w'.ownsRow (w.heap.size+1) 80 9 v kept.length (qef kept)/\(∀m∈kept,qat w' m.wa m.wc m.t.ws/\∀k,m.blk k->∃o,F' k=some o)/\(∀k o,F k=some o->F' k=some o)/\RS w b G F' S/\Below w.heap.size w w':=by
 obtain⟨lv,wv,sv,log,waits,h,j,p,r,s⟩:=h
 have B:log.length=S.log.length:=by rw[<-j];simp
 refine(qm4 c d g i w h (λm a=>(l.lsite m.t (by rw[<-j];exact List.mem_map.2 ⟨m,a,rfl⟩)).1) (by have:=l.log;omega)).mono λe w' ⟨v,u,x,n⟩=>⟨v,u,log.filter (qe4 c d g i),λk=>if ∃m∈log,m.blk k then w.heap[k]?else none,qrj j _ _ _ _,x,λm a=>?_,λk o e=>?_,⟨lv,wv,sv,log,waits,h,j,p,r,λk o e=>?_⟩,n⟩
 ·have a:=(List.mem_filter.1 a).1;have q:=(h.hold m (List.mem_append.2 (.inl a))).1;exact⟨q.later n,λk e=>⟨_,(if_pos ⟨m,a,e⟩).trans (Array.getElem?_eq_getElem (q.blk_lt k e))⟩⟩
 ·obtain⟨y,m,a,z⟩:=s k o e;show (if _ then _ else _)=_;rw[if_pos ⟨m,a,z⟩];exact y
 ·have e:(if ∃m∈log,m.blk k then w.heap[k]?else none)=some o:=e;split at e
  ·rename_i q;exact⟨e,q⟩
  ·simp at e
end
end
section
open Go.Value Go.IntKind
theorem qkb (x a s:Int):qaz (qaz x a) s=qaz (qaz x s) a:=by unfold qaz;repeat' split<;>omega
def dwV (W:WoS) (k j:Nat):V4:=⟨qaz (swV W k j).v0 (W.S k).a0,qaz (swV W k j).v1 (W.S k).a1,qaz (swV W k j).v2 (W.S k).a2,qaz (swV W k j).v3 (W.S k).a3⟩
variable {W:WoS} {k j:Nat}
theorem q3y (h:W.at_ j=k/\(W.ses j).opn=true):dwV W k (j+1)=⟨qaz (dwV W k j).v0 (W.ses j).s0,qaz (dwV W k j).v1 (W.ses j).s1,qaz (dwV W k j).v2 (W.ses j).s2,qaz (dwV W k j).v3 (W.ses j).s3⟩:=by
 have e:swV W k (j+1)=⟨qaz (swV W k j).v0 (W.ses j).s0,qaz (swV W k j).v1 (W.ses j).s1,qaz (swV W k j).v2 (W.ses j).s2,qaz (swV W k j).v3 (W.ses j).s3⟩:=if_pos h;unfold dwV;rw[e,qkb,qkb _ (W.S k).a1,qkb _ (W.S k).a2,qkb _ (W.S k).a3]
theorem q27 (h:¬(W.at_ j=k/\(W.ses j).opn=true)):dwV W k (j+1)=dwV W k j:=by
 have e:swV W k (j+1)=swV W k j:=if_neg h;unfold dwV;rw[e]
noncomputable def q31:Code:=((Tryz.f51.body.bind (qcn 1)).getD .skip)
theorem qr5 {b:Nat} {M:RoM} {Gs:Nat->Nat->Prop} {i:Nat} {v x y5 y z B C D E F G H y15 y16 y17 y18 y19 y20 y21 y22 y23 y24 y25 y26 I J K L N O P Q U X Y Z aa ab ac ad ae af ag ah ai aj ak al am an ao ap aq ar au av aw ax ay az aA:Value} (w:World) (h:RWo w b M W Gs) (p:i<W.n) (R:Act->World->Prop)
 (hR:∀(u15 u16 u17 u18 u19 u20 u21 u22 u23 u24 u25 u26:Value) (c:Nat) (d:World),qag d c (v4C (dwV W i 0))->Below w.heap.size w d->w.heap.size<=c->R ⟨List.toArray ((.pointer (some ⟨b,0,none⟩))::(int i64 i)::v::x::(.pointer (some ⟨M.bp i,0,none⟩))::(.pointer (some ⟨c,0,none⟩))::y::z::B::C::D::E::F::G::H::u15::u16::u17::u18::u19::u20::u21::u22::u23::u24::u25::u26::I::J::K::L::N::O::P::Q::U::X::Y::Z::aa::ab::ac::ad::ae::af::ag::ah::ai::aj::ak::al::am::an::ao::ap::aq::ar::au::av::aw::ax::ay::az::aA::[]),[]⟩ d):
 Code.wp Tryz.prog q31 (Exit.then R (λ_ _ _=>False)) ⟨List.toArray ((.pointer (some ⟨b,0,none⟩))::(int i64 i)::v::x::(.pointer (some ⟨M.bp i,0,none⟩))::y5::y::z::B::C::D::E::F::G::H::y15::y16::y17::y18::y19::y20::y21::y22::y23::y24::y25::y26::I::J::K::L::N::O::P::Q::U::X::Y::Z::aa::ab::ac::ad::ae::af::ag::ah::ai::aj::ak::al::am::an::ao::ap::aq::ar::au::av::aw::ax::ay::az::aA::[]),[]⟩ w:=by
 have HR:Hid _:=hR;clear hR;obtain⟨g,cap,c0,hcap,hg,hc⟩:=h.sitesAt p;obtain⟨V,r⟩:∃V,qak (W.S i) (qcz W.n)=V:=⟨_,rfl⟩
 have ST:Hid (∀w',Below w.heap.size w w'->Calls Tryz.prog 90 #[.pointer (some ⟨M.bp i,0,none⟩),int i64 W.n] w' λe w''=>e=.returned (.agg #[int i64 V.v0,int i64 V.v1,int i64 V.v2,int i64 V.v3])/\Below w'.heap.size w' w''):=λw' hb=>by
  have:=qsj (W.n:Int) w' ((h.later hb).site p);rw[r]at this;exact this
 have HV:Hid (∀d c,qag d c (v4C ⟨qaz V.v0 (W.S i).a0,qaz V.v1 (W.S i).a1,qaz V.v2 (W.S i).a2,qaz V.v3 (W.S i).a3⟩)->qag d c (v4C (dwV W i 0))):=λd c hr=>by
  have:dwV W i 0=⟨qaz V.v0 (W.S i).a0,qaz V.v1 (W.S i).a1,qaz V.v2 (W.S i).a2,qaz V.v3 (W.S i).a3⟩:=by
   show (⟨qaz (qak (W.S i) (qcz W.n)).v0 _,_,_,_⟩:V4)=_;rw[<-r];rfl
  rw[this];exact hr
 have HA:Hid (∀w',Below w.heap.size w w'->w'.cell? ⟨M.bp i,1,none⟩=some (int i64 (W.S i).a0)/\w'.cell? ⟨M.bp i,2,none⟩=some (int i64 (W.S i).a1)/\w'.cell? ⟨M.bp i,3,none⟩=some (int i64 (W.S i).a2)/\w'.cell? ⟨M.bp i,4,none⟩=some (int i64 (W.S i).a3)/\M.bp i<w'.heap.size):=λw' hb=>((h.later hb).site p).applied;obtain⟨a0,a1,a2,a3,hbl⟩:=(h.site p).applied;have hlt:=h.box.lt;clear h hc r
 conv=>arg 2;whnf
 go_region_law (first
  |(refine qb7 rfl 90 rfl #[.pointer (some ⟨M.bp i,0,none⟩),int i64 W.n] (by go_simp) (ST.out w.drew (Below.refl _ w).drew) ?_
    rintro e w2 ⟨rfl,q⟩;refine⟨_,rfl,?_⟩;have l:=qac (Below.refl _ w).drew q
    obtain⟨d0,d1,d2,d3,dl⟩:=HA.out w2 l)
  |(refine qb7 rfl 90 rfl #[.pointer (some ⟨M.bp i,0,none⟩),int i64 W.n] (by go_simp) (ST.out (w.drew.alloc (.cells #[int i64 0,int i64 0,int i64 0,int i64 0] 47)) (boxed (Below.refl _ w).drew (.cells #[int i64 0,int i64 0,int i64 0,int i64 0] 47))) ?_
    rintro e w2 ⟨rfl,q⟩;refine⟨_,rfl,?_⟩;have l:=qac (boxed (Below.refl _ w).drew (.cells #[int i64 0,int i64 0,int i64 0,int i64 0] 47)) q;have RX:=(qag.new (w:=w.drew) (T:=47) (n:=w.heap.size) [int i64 0,int i64 0,int i64 0,int i64 0] rfl).later q
    obtain⟨d0,d1,d2,d3,dl⟩:=HA.out w2 l)
  |(refine qb7 rfl 89 rfl #[.agg #[int i64 V.v0,int i64 V.v1,int i64 V.v2,int i64 V.v3],.agg #[int i64 ((W.S i).a0),int i64 ((W.S i).a1),int i64 ((W.S i).a2),int i64 ((W.S i).a3)]] (by go_simp) (qgk _ _ _ _ _ _ _ _ w2) ?_
    rintro e s ⟨rfl,m⟩;refine⟨_,rfl,?_⟩;have a:=RX.later m;have o:=qac l m;have u:w.heap.size<=w.heap.size:=Nat.le_refl _;obtain⟨f0,f1,f2,f3⟩:=a.f4;have y_0:=a.cell 0 _ rfl;have y_1:=a.cell 1 _ rfl;have y_2:=a.cell 2 _ rfl
    have y_3:=a.cell 3 _ rfl)
  |(refine qb7 rfl 89 rfl #[.agg #[int i64 V.v0,int i64 V.v1,int i64 V.v2,int i64 V.v3],.agg #[int i64 ((W.S i).a0),int i64 ((W.S i).a1),int i64 ((W.S i).a2),int i64 ((W.S i).a3)]] (by go_simp) (qgk _ _ _ _ _ _ _ _ w2) ?_
    rintro e s ⟨rfl,m⟩;refine⟨_,rfl,?_⟩
    have o:=qac l m)
  |(refine qb7 rfl 89 rfl #[.agg #[int i64 V.v0,int i64 V.v1,int i64 V.v2,int i64 V.v3],.agg #[int i64 ((W.S i).a0),int i64 ((W.S i).a1),int i64 ((W.S i).a2),int i64 ((W.S i).a3)]] (by go_simp) (qgk _ _ _ _ _ _ _ _ (w2.alloc (.cells #[int i64 0,int i64 0,int i64 0,int i64 0] 47))) ?_
    rintro e s ⟨rfl,m⟩;refine⟨_,rfl,?_⟩;have a:=(qag.new (w:=w2) (T:=47) (n:=w2.heap.size) [int i64 0,int i64 0,int i64 0,int i64 0] rfl).later m;have o:=qac (boxed l (.cells #[int i64 0,int i64 0,int i64 0,int i64 0] 47)) m;have u:w.heap.size<=w2.heap.size:=l.size;obtain⟨f0,f1,f2,f3⟩:=a.f4;have y_0:=a.cell 0 _ rfl;have y_1:=a.cell 1 _ rfl;have y_2:=a.cell 2 _ rfl
    have y_3:=a.cell 3 _ rfl))
 all_goals
  first
   |(go_simp
     refine HR.out _ _ _ _ _ _ _ _ _ _ _ _ _ _ (HV.out _ _ (qmn a _ _ _ _)) (qe1 o u _ _ _ _) u)
   |(go_simp
     exact HR.out _ _ _ _ _ _ _ _ _ _ _ _ _ _ (HV.out _ _ (qag.new (w:=s) (T:=47) (v4C ⟨qaz V.v0 (W.S i).a0,qaz V.v1 (W.S i).a1,qaz V.v2 (W.S i).a2,qaz V.v3 (W.S i).a3⟩) rfl)) (boxed o _) o.size)
end
section
open Go.Value Go.IntKind
variable {b:Nat}
theorem qdd {tmps:Array Value} {w:World} {x0 x1 x2 x3 d e g i ev:Int} {a:Option Addr} {n c:Nat} (h:qag w b [int i64 x0,int i64 x1,int i64 x2,int i64 x3,int i64 d,int i64 e,int i64 g,int i64 i,.slice a n c]) (j:tmps[6]?=some (.pointer (some ⟨b,0,none⟩))) (k:tmps[7]?=some (int i64 ev)):
 (results Tryz.f76 tmps).run Tryz.prog w=.ok (.tuple #[.agg #[int i64 x0,int i64 x1,int i64 x2,int i64 x3,int i64 d,int i64 e,int i64 g,int i64 i,.slice a n c],int i64 ev]) w:=by
 obtain⟨l,m,o,p,q,r,s,t,u⟩:=h.c9;simp[results,Tryz.results76,go_sem,j,k,l,m,o,p,q,r,s,t,u]
theorem qlc {H:Nat} {G O:Nat->Prop} {F:Nat->Option Obj} {s:qbp} {S:qaf} (now:Int) (w:World) (h:RSe w b G s) (hS:RS w H O F S) (hI:qcr S) (hd:∀k,G k->¬O k) (hp:0<=s.p0):
 Calls Tryz.prog 76 #[.pointer (some ⟨b,0,none⟩),.pointer (some ⟨H,0,none⟩),int i64 now] w (q1f w b H G O F S s now):=by
 have d:Hid (RSe w b G s/\RS w H O F S/\qcr S/\(∀k,G k->¬O k)/\0<=s.p0/\(∀k,G k->k<w.heap.size)/\∀k,O k->k<w.heap.size):=⟨h,hS,hI,hd,hp,h.lt,hS.lt⟩;obtain⟨wv,h0,hG⟩:=h;have W:Hid (∀k,G k↔(k=b\/wv.ownBlock=some k)):=hG;have HS:Hid (qla w b wv s):=h0;have hb1:=boxed (Below.refl _ w) (.cells #[int i64 0,int i64 0,int i64 0,int i64 0,int i64 0,int i64 0,int i64 0,int i64 0,.slice none 0 0] 80);have RT:=qag.new (w:=w) (T:=80) [int i64 0,int i64 0,int i64 0,int i64 0,int i64 0,int i64 0,int i64 0,int i64 0,.slice none 0 0] rfl;change qag (w.alloc (.cells #[int i64 0,int i64 0,int i64 0,int i64 0,int i64 0,int i64 0,int i64 0,int i64 0,.slice none 0 0] 80)) w.heap.size [int i64 0,int i64 0,int i64 0,int i64 0,int i64 0,int i64 0,int i64 0,int i64 0,.slice none 0 0]at RT;have B1:=h0.box.later hb1;have k8:=B1.cell 8 _ rfl;cases ho:s.opn
 ·rw[ho]at k8;have E:Hid (qe9 S s now=6/\qem S s now=tx0.t/\qd9 S s now=S/\qbf S s now=s):=qmh ho;clear hS hI hd hp h0 hG B1 ho;go_enter Tryz.func76,Tryz.ntmps76
  go_wp2_with fail
  refine bodyPost_ret (qdd RT rfl rfl) rfl ⟨tx0,by rw[E.out.1];rfl,E.out.2.1.symm,qmy _,?_⟩;rw[E.out.2.2.1,E.out.2.2.2];exact⟨F,⟨λ_ _ e=>e,λk j=>absurd j (qfy k)⟩,qok (p:=qqb b s) (q:=qgx H F S) d.out.1 d.out.2.1 d.out.2.2.2.1 hb1 _ qfy⟩
 ·rw[ho]at k8;have R:Hid (s.opn=true):=ho;have hb2:=boxed hb1 (.cells #[int i64 0,int i64 0,int i64 0,int i64 0,int i64 0,int i64 0,int i64 0,int i64 0,.slice none 0 0] 80);have AL:=qoj ((w.alloc (.cells #[int i64 0,int i64 0,int i64 0,int i64 0,int i64 0,int i64 0,int i64 0,int i64 0,.slice none 0 0] 80)).alloc (.cells #[int i64 0,int i64 0,int i64 0,int i64 0,int i64 0,int i64 0,int i64 0,int i64 0,.slice none 0 0] 80)) (h0.later hb2);have RT2:=RT.boxed (.cells #[int i64 0,int i64 0,int i64 0,int i64 0,int i64 0,int i64 0,int i64 0,int i64 0,.slice none 0 0] 80);have RX2:=qag.new (w:=(w.alloc (.cells #[int i64 0,int i64 0,int i64 0,int i64 0,int i64 0,int i64 0,int i64 0,int i64 0,.slice none 0 0] 80))) (T:=80) (n:=w.heap.size+1) [int i64 0,int i64 0,int i64 0,int i64 0,int i64 0,int i64 0,int i64 0,int i64 0,.slice none 0 0] (by simp);change qag ((w.alloc (.cells #[int i64 0,int i64 0,int i64 0,int i64 0,int i64 0,int i64 0,int i64 0,int i64 0,.slice none 0 0] 80)).alloc (.cells #[int i64 0,int i64 0,int i64 0,int i64 0,int i64 0,int i64 0,int i64 0,int i64 0,.slice none 0 0] 80)) (w.heap.size+1) [int i64 0,int i64 0,int i64 0,int i64 0,int i64 0,int i64 0,int i64 0,int i64 0,.slice none 0 0]at RX2;clear hS hI hd hp h0 hG B1 ho RT;go_enter Tryz.func76,Tryz.ntmps76
  go_wp2_with fail
  refine AL.mono ?_;rintro e L ⟨v,rfl,ownv,hbv⟩;obtain⟨va,vc,rfl,hWv⟩:=qcw ownv
  have HNA:Hid (∀k off,(qbs s.ws)≠[]->va=some ⟨k,off,none⟩->w.heap.size+2<=k):=λk off hne e=>by
   have:=ownv.form (List.length_pos_iff.2 hne);obtain⟨g,cc,e1,e2,e3⟩:=this;injection e1 with e1;rw[e1]at e;injection e with e;injection e with e;simp at e2;omega
  have X:=qac hb2 hbv;have RTA:=RT2.later hbv;have RXA:=RX2.later hbv
  have HSZ:Hid (w.heap.size+2<=L.heap.size):=by have:=hbv.size;simp at this;exact this
  have HWV:Hid (qat L va vc (qbs s.ws)):=hWv;have hcl:=hWv.len;have hcc:=hWv.cap
  have HN2:Hid (∀k,(k=w.heap.size\/k=w.heap.size+1)->w.heap.size<=k/\k<L.heap.size):=λk e=>by
   have:=HSZ.out
   rcases e with e|e<;>omega
  clear AL k8 RT2 RX2 hb1 hb2 hbv ownv hWv;by_cases hl:(qbs s.ws).length=0
  ·have E:Hid (qe9 S s now=0/\qem S s now=tx0.t/\qd9 S s now=S/\qbf S s now=qil s):=qmm R.out hl
   have l0:¬(0:Int)<((qbs s.ws).length:Int):=by omega
   have AB:=qhp L (HS.out.later X);clear hl
   go_wp2_with fail
   refine AB.mono ?_;rintro e wD ⟨rfl,Z⟩;rw[show qnz s=qil s by unfold qnz;rw[if_neg (by rw[R.out];decide)]]at Z;rw[show qps s=0 by unfold qps;rw[if_neg (by rw[R.out];decide)]];have HPO:Hid (qkh L b wv (qil s) wD):=Z;obtain⟨wv',hs',_,J⟩:=Z
   have U:∀k,w.heap.size<=k->¬(k=b\/wv.ownBlock=some k):=λk j e=>by have:=d.out.2.2.2.2.2.1 k ((W.out k).2 e);omega
   have aa:=RTA.kept (J.block _ RTA.lt (U _ (Nat.le_refl _))) J.size;have K:=RXA.kept (J.block _ RXA.lt (U _ (Nat.le_succ _))) J.size;have x0:=Later.cell (K.cell 0 _ rfl);have x1:=Later.cell (K.cell 1 _ rfl);have y0:∀x:Later wD,x.val.cell? ⟨b,0,none⟩=some (int i64 (qb1 s.p0 s.s0)):=Later.cell (hs'.box.cell 0 _ rfl);have hne:=Later.one;have g0:decide (qb1 s.p0 s.s0<0)=false:=decide_eq_false (by have:=d.out.2.2.2.2.1;unfold qb1;split<;>omega);clear AB J U
   go_wp2_with fail
   refine qaa (by kernel_rfl) (by kernel_rfl) ?_
   repeat (go_big_quiet_step (first|rfl|fail))
   refine wpQuiet_nil ?_;rintro w3 ⟨⟨_,I⟩,rfl⟩;have RTF:=aa.later I;have RXF:=K.later I;clear x0 x1 y0 hs' aa K;obtain⟨x0,x1,x2,x3,x4,x5,x6,x7,x8⟩:=RXF.c9;obtain⟨r0,r1,r2,r3,r4,r5,r6,r7,r8⟩:=RTF.c9;obtain⟨p0,p1,p2,p3,p4,p5,p6,p7,p8⟩:=RTF.f9;have RZ:=qbk RTF rfl 0 0 0 0 0 0 0 0 (.slice none 0 0);have P:=qjb (p:=qqb b (qil s)) (q:=qgx H F S) (Y:=tx0.blk) d.out.2.2.2.2.2.1 d.out.2.2.2.2.2.2 d.out.2.2.2.1 X HN2.out (RPo.same (d.out.2.1.later X) (Below.refl _ _)) (λk j=>absurd j (qfy k)) (qae.ofBelow (Below.refl _ _)) ((HPO.out.after I).left W.out) (qbz (b:=w.heap.size) (qae.ofBelow (Below.refl _ w3)) (.inl rfl) 0 0 0 0 0 0 0 0 (.slice none 0 0));clear RTF RXF HPO
   go_wp2_with fail
   refine bodyPost_ret (qdd RZ rfl rfl) rfl ⟨tx0,by rw[E.out.1];rfl,E.out.2.1.symm,qmy _,?_⟩;rw[E.out.2.2.1,E.out.2.2.2];exact⟨F,⟨λ_ _ e=>e,λk j=>absurd j (qfy k)⟩,P.1⟩
  ·have HY:Hid (qe9 S s now=qk9 S now s.s0 s.s1 s.s2 s.s3 (qbs s.ws)/\qem S s now=qna S now s.s0 s.s1 s.s2 s.s3 (qbs s.ws)/\qd9 S s now=qkq S now s.s0 s.s1 s.s2 s.s3 (qbs s.ws)):=qjx R.out hl;have HLN:Hid ((qbs s.ws).length≠0):=hl
   have l0:(0:Int)<((qbs s.ws).length:Int):=by omega
   have CM:=qsv now s.s0 s.s1 s.s2 s.s3 L (d.out.2.1.later X) d.out.2.2.1 HWV.out (λk off e1 e2 hg=>by have:=HNA.out k off e1 e2;have:=d.out.2.2.2.2.2.2 k hg;omega);have BA:=HS.out.box.later X;have c4:=BA.cell 4 _ rfl;have c5:=BA.cell 5 _ rfl;have c6:=BA.cell 6 _ rfl;have c7:=BA.cell 7 _ rfl;have HBA:Hid (Below w.heap.size w L):=X;obtain⟨⟨a,c,l,o,r,u,y,z,i⟩,hct⟩:∃t,qna S now s.s0 s.s1 s.s2 s.s3 (qbs s.ws)=t:=⟨_,rfl⟩;obtain⟨ce,hce⟩:∃ce,qk9 S now s.s0 s.s1 s.s2 s.s3 (qbs s.ws)=ce:=⟨_,rfl⟩;clear hl X
   go_wp2_with fail
   refine CM.mono ?_;rintro e wB ⟨⟨mt,B,C⟩,rfl,hmt,hh,hnew⟩;rw[hct]at hmt;simp only at hmt;subst hmt;rw[hce,show txV ⟨⟨a,c,l,o,r,u,y,z,i⟩,B,C⟩=.agg #[int i64 a,int i64 c,int i64 l,int i64 o,int i64 r,int i64 u,int i64 y,int i64 z,.slice B i.length C]from rfl];obtain⟨hWB,F',hFE,hPB⟩:=hh.out;have HFE:Hid (q6d F ⟨⟨a,c,l,o,r,u,y,z,i⟩,B,C⟩ F'):=hFE;clear hFE;have M:Hid (RPo L H O F' (qkq S now s.s0 s.s1 s.s2 s.s3 (qbs s.ws)) wB/\qat wB B C i/\(∀k,(⟨⟨a,c,l,o,r,u,y,z,i⟩,B,C⟩:TxM).blk k->L.heap.size<=k)):=⟨hPB,hWB,hnew⟩;obtain⟨H1,_,_,tB⟩:=hPB
   have nX:∀k,w.heap.size<=k->¬O k:=λk j e=>by have:=d.out.2.2.2.2.2.2 k e;omega
   have RTB:=RTA.kept (tB.block _ RTA.lt (nX _ (Nat.le_refl _))) tB.size;have RXB:=RXA.kept (tB.block _ RXA.lt (nX _ (Nat.le_succ _))) tB.size;clear c4 c5 c6 c7 BA CM RTA RXA tB nX hh hWB hnew;obtain⟨x0,x1,x2,x3,x4,x5,x6,x7,x8⟩:=RXB.c9;obtain⟨q0,q1,q2,q3,q4,q5,q6,q7,q8⟩:=RXB.f9;have RXC:=qbk RXB rfl a c l o r u y z (.slice B i.length C);have Q:=qsa RTB (by omega:w.heap.size≠w.heap.size+1) a c l o r u y z (.slice B i.length C);have TC:qae (λk=>k=w.heap.size\/k=w.heap.size+1) wB (qbg wB (w.heap.size+1) a c l o r u y z (.slice B i.length C)):=qbz (qae.ofBelow (Below.refl _ wB)) (.inr rfl) a c l o r u y z (.slice B i.length C);obtain⟨WC,hWC⟩:∃WC,qbg wB (w.heap.size+1) a c l o r u y z (.slice B i.length C)=WC:=⟨_,rfl⟩;rw[hWC]at RXC Q TC;simp only[qbg]at hWC;clear RXB RTB
   have hsC:qla WC b wv s:=by
     have mid:=qzc (q:=qgx H F' (qkq S now s.s0 s.s1 s.s2 s.s3 (qbs s.ws))) d.out.2.2.2.2.2.1 d.out.2.2.2.1 HBA.out HN2.out M.out.1 TC;exact HS.out.keptB (λk e=>mid.1 k ((W.out k).2 e)) mid.2
   have U:∀k,w.heap.size<=k->¬(k=b\/wv.ownBlock=some k):=λk j e=>by have:=d.out.2.2.2.2.2.1 k ((W.out k).2 e);omega
   by_cases hE:ce=0
   ·subst hE
    have E:Hid (qbf S s now=qks a c (qil s)/\a=S.id):=by
       have:=qqm (S:=S) (s:=s) (now:=now) R.out HLN.out hce;rw[hct]at this;exact this
    have V:Hid (qe9 S s now=0/\qem S s now=⟨a,c,l,o,r,u,y,z,i⟩):=⟨HY.out.1.trans hce,HY.out.2.1.trans hct⟩
    have i0:0<=a:=by rw[E.out.2];exact d.out.2.2.1.id0
    have i3:a<=3:=by rw[E.out.2];exact d.out.2.2.1.id3
    have i4:a<4:=by omega
    have AB:=qhp WC hsC
    go_wp2_with (rw[hWC])
    refine AB.mono ?_;rintro e wD ⟨rfl,Z⟩;rw[show qnz s=qil s by unfold qnz;rw[if_neg (by rw[R.out];decide)]]at Z;rw[show qps s=0 by unfold qps;rw[if_neg (by rw[R.out];decide)]];have HPO:Hid (qkh WC b wv (qil s) wD):=Z;obtain⟨wv',hs',_,J⟩:=Z;have aa:=Q.kept (J.block _ Q.lt (U _ (Nat.le_refl _))) J.size;have K:=RXC.kept (J.block _ RXC.lt (U _ (Nat.le_succ _))) J.size;obtain⟨D,hD⟩:∃D,qao a (qil s).p0 (qil s).p1 (qil s).p2 (qil s).p3=D:=⟨_,rfl⟩;have HB':Hid (qag wD b (qbl (qil s) wv')):=hs'.box
    have HPA:Hid ((qbl (qil s) wv')[a.toNat]?=some (int i64 D)):=by show _=_;rw[q4q i0 i3,hD]
    have HD:Hid (qao a (qil s).p0 (qil s).p1 (qil s).p2 (qil s).p3=D):=hD;clear q0 q1 q2 q3 q4 q5 q6 q7 q8 x0 x1 x2 x3 x4 x5 x6 x7 x8 hct hce J hs' hD AB;have x0:=Later.cell (K.cell 0 _ rfl);have x1:=Later.cell (K.cell 1 _ rfl);have y0:=Later.cell (HB'.out.cell _ _ HPA.out);have hne:=Later.one;by_cases hlt:D<c
    ·have HS2:Hid (qbf S s now=qq1 a.toNat c (qil s)):=by show _=_;rw[E.out.1,qku i0 i3,HD.out,qh2 hlt]
     go_wp2_with fail
     refine qaa (by kernel_rfl) (by kernel_rfl) ?_
     repeat (go_big_quiet_step (first|rfl|fail))
     refine wpQuiet_nil ?_;rintro w3 ⟨⟨_,I⟩,rfl⟩;clear x0 x1 y0;have B3:=HB'.out.later I;have RT3:=aa.later I;have RX3:=K.later I;have x0:=RX3.cell 0 _ rfl;have x1:=RX3.cell 1 _ rfl;have y0:=B3.cell _ _ HPA.out;have g0:=B3.free a.toNat (by simp[qbl];omega)
     go_wp2_with fail
     go_region
     all_goals
        have P4:=((HPO.out.after I).past (n:=a.toNat) (by omega) c).after ((Below.refl _ (w3.setCell ⟨b,a.toNat,none⟩ (int i64 c))).drew);have bne:b≠w.heap.size:=λe=>U b (by omega) (.inl rfl);have bne1:b≠w.heap.size+1:=λe=>U b (by omega) (.inl rfl);have N:=(RT3.far ⟨b,a.toNat,none⟩ (int i64 c) bne).drew;have RX4:=(RX3.far ⟨b,a.toNat,none⟩ (int i64 c) bne1).drew;obtain⟨W4,hW4⟩:∃W4,(w3.setCell ⟨b,a.toNat,none⟩ (int i64 c)).drew=W4:=⟨_,rfl⟩;rw[hW4]at P4 N RX4
        (try rw[hW4])
        clear x0 x1 y0 g0 B3 RT3 RX3 aa K Q RXC;obtain⟨x0,x1,x2,x3,x4,x5,x6,x7,x8⟩:=RX4.c9;obtain⟨r0,r1,r2,r3,r4,r5,r6,r7,r8⟩:=N.c9;obtain⟨p0,p1,p2,p3,p4,p5,p6,p7,p8⟩:=N.f9;have RZ:=qbk N rfl a c l o r u y z (.slice B i.length C);have P:=qjb (p:=qqb b (qq1 a.toNat c (qil s))) (q:=qgx H F' (qkq S now s.s0 s.s1 s.s2 s.s3 (qbs s.ws))) (Y:=(⟨⟨a,c,l,o,r,u,y,z,i⟩,B,C⟩:TxM).blk) d.out.2.2.2.2.2.1 d.out.2.2.2.2.2.2 d.out.2.2.2.1 HBA.out HN2.out M.out.1 (λk j=>⟨M.out.2.2 k j,qat.blk_lt (m:=(⟨⟨a,c,l,o,r,u,y,z,i⟩,B,C⟩:TxM)) M.out.2.1 k j⟩) TC (P4.left W.out) (qbz (b:=w.heap.size) (qae.ofBelow (Below.refl _ W4)) (.inl rfl) a c l o r u y z (.slice B i.length C));have WF:=qat.kept (m:=(⟨⟨a,c,l,o,r,u,y,z,i⟩,B,C⟩:TxM)) M.out.2.1 (λk j=>P.2 k j);clear N RX4
        go_wp2_with (rw[hW4])
        refine bodyPost_ret (qdd RZ rfl rfl) rfl ⟨(⟨⟨a,c,l,o,r,u,y,z,i⟩,B,C⟩:TxM),by rw[V.out.1];rfl,V.out.2.symm,WF,?_⟩;rw[HY.out.2.2,HS2.out];exact⟨F',HFE.out,P.1⟩
    ·have HS2:Hid (qbf S s now=qil s):=by show _=_;rw[E.out.1,qvd i0 i3 (by rw[HD.out];exact hlt)]
     go_wp2_with fail
     refine qaa (by kernel_rfl) (by kernel_rfl) ?_
     repeat (go_big_quiet_step (first|rfl|fail))
     refine wpQuiet_nil ?_;rintro w3 ⟨⟨_,I⟩,rfl⟩;clear x0 x1 y0;have P4:=HPO.out.after I;have N:=aa.later I;have RX4:=K.later I;obtain⟨x0,x1,x2,x3,x4,x5,x6,x7,x8⟩:=RX4.c9;obtain⟨r0,r1,r2,r3,r4,r5,r6,r7,r8⟩:=N.c9;obtain⟨p0,p1,p2,p3,p4,p5,p6,p7,p8⟩:=N.f9;have RZ:=qbk N rfl a c l o r u y z (.slice B i.length C);have P:=qjb (p:=qqb b (qil s)) (q:=qgx H F' (qkq S now s.s0 s.s1 s.s2 s.s3 (qbs s.ws))) (Y:=(⟨⟨a,c,l,o,r,u,y,z,i⟩,B,C⟩:TxM).blk) d.out.2.2.2.2.2.1 d.out.2.2.2.2.2.2 d.out.2.2.2.1 HBA.out HN2.out M.out.1 (λk j=>⟨M.out.2.2 k j,qat.blk_lt (m:=(⟨⟨a,c,l,o,r,u,y,z,i⟩,B,C⟩:TxM)) M.out.2.1 k j⟩) TC (P4.left W.out) (qbz (b:=w.heap.size) (qae.ofBelow (Below.refl _ w3)) (.inl rfl) a c l o r u y z (.slice B i.length C));have WF:=qat.kept (m:=(⟨⟨a,c,l,o,r,u,y,z,i⟩,B,C⟩:TxM)) M.out.2.1 (λk j=>P.2 k j);clear N RX4 aa K Q RXC
     go_wp2_with fail
     refine bodyPost_ret (qdd RZ rfl rfl) rfl ⟨(⟨⟨a,c,l,o,r,u,y,z,i⟩,B,C⟩:TxM),by rw[V.out.1];rfl,V.out.2.symm,WF,?_⟩;rw[HY.out.2.2,HS2.out];exact⟨F',HFE.out,P.1⟩
   ·have E:Hid (qbf S s now=s/\qkq S now s.s0 s.s1 s.s2 s.s3 (qbs s.ws)=S/\qna S now s.s0 s.s1 s.s2 s.s3 (qbs s.ws)=tx0.t):=qox R.out HLN.out (by rw[hce];exact hE);have V:Hid (qe9 S s now=ce/\qem S s now=tx0.t/\qd9 S s now=S):=⟨HY.out.1.trans hce,HY.out.2.1.trans E.out.2.2,HY.out.2.2.trans E.out.2.1⟩
    have HPS:Hid (RPo L H O F' S wB):=by have:=M.out.1;rw[E.out.2.1]at this;exact this
    have RZ:=qbk Q rfl 0 0 0 0 0 0 0 0 (.slice none 0 0);have P:=qjb (p:=qqb b s) (q:=qgx H F' S) (Y:=tx0.blk) d.out.2.2.2.2.2.1 d.out.2.2.2.2.2.2 d.out.2.2.2.1 HBA.out HN2.out HPS.out (λk j=>absurd j (qfy k)) TC ((qkh.same hsC (Below.refl _ _)).left W.out) (qbz (b:=w.heap.size) (qae.ofBelow (Below.refl _ WC)) (.inl rfl) 0 0 0 0 0 0 0 0 (.slice none 0 0));clear hct hce;obtain⟨r0,r1,r2,r3,r4,r5,r6,r7,r8⟩:=Q.c9;obtain⟨p0,p1,p2,p3,p4,p5,p6,p7,p8⟩:=Q.f9;clear Q RXC
    go_wp2_with (rw[hWC])
    refine bodyPost_ret (qdd RZ rfl rfl) rfl ⟨tx0,by rw[V.out.1];rfl,V.out.2.1.symm,qmy _,?_⟩;rw[E.out.1,V.out.2.2];exact⟨F',⟨HFE.out.1,λk j=>absurd j (qfy k)⟩,P.1⟩
end
section
def qhg (b:Nat):World->Nat->List Value->World
 |W,_,[]=>W
 |W,j,v::l=>qhg b (W.setCell ⟨b,j,none⟩ v) (j+1) l
theorem ql3 {b:Nat}:∀(l a rest:List Value) (W:World),qag W b (a++rest)->rest.length=l.length->qag (qhg b W a.length l) b (a++l)
 |[],a,rest,W,h,hl=>by
  have:rest=[]:=List.eq_nil_of_length_eq_zero hl;subst this;exact h
 |v::l,a,[],W,h,hl=>by simp at hl
 |v::l,a,r::rest,W,h,hl=>by
  have c:=h.set a.length v (by simp)
  have e:(a++r::rest).set a.length v=a++v::rest:=by simp
  rw[e]at c;have:=ql3 l (a++[v]) rest (W.setCell ⟨b,a.length,none⟩ v) (by simpa using c) (by simpa using hl);simpa[qhg]using this
variable {b:Nat} {W:World}
theorem qvb {xs l:List Value} (h:qag W b xs) (a:xs.length=l.length):qag (qhg b W 0 l) b l:=ql3 l [] xs W h a
theorem qfp {k:Nat} (a:k≠b):∀(l:List Value) (j:Nat) (W:World),(qhg b W j l).heap[k]?=W.heap[k]?
 |[],_,_=>rfl
 |_::l,j,_=>(qfp a l (j+1) _).trans (Below.heap_setCell _ _ _ _ a)
theorem qjc {b:Nat}:∀(l:List Value) (j:Nat) (W:World),(qhg b W j l).os=W.os/\(qhg b W j l).tape=W.tape/\(qhg b W j l).output=W.output/\(qhg b W j l).heap.size=W.heap.size
 |[],_,_=>⟨rfl,rfl,rfl,rfl⟩
 |v::l,j,W=>by
  have h:=qjc (b:=b) l (j+1) (W.setCell ⟨b,j,none⟩ v);exact⟨h.1,h.2.1,h.2.2.1,h.2.2.2.trans (by simp[World.setCell])⟩
theorem qk0 {F:Nat->Prop} {w:World} (h:qae F w W) (hb:w.heap.size<=b) (l:List Value):qae F w (qhg b W 0 l):=by
 have s:=qjc (b:=b) l 0 W;exact⟨s.1.trans h.os,s.2.1.trans h.tape,s.2.2.1.trans h.output,by rw[s.2.2.2];exact h.size,λk a c=>(qfp (by omega) l 0 W).trans (h.block k a c)⟩
section
variable {w W9:World} {b:Nat} {M:RoM} {W:WoS} {Gs:Nat->Nat->Prop}
theorem RWo.outed (h:RWo w b M W Gs) {a:Value} {i:Nat} (c:qae (λk=>k=b) w W9) (d:qag W9 b [M.sv,M.wv,M.cv,M.av,a,.int .i64 W.lost]) (own:W9.ownsRow 0 122 15 a (M.l.eraseIdx i).length (qhb (M.l.eraseIdx i))) (f:∀k,a.ownBlock=some k->w.heap.size<=k):
 RWo W9 b {M with yv:=a,l:=M.l.eraseIdx i} (qb3 W i) Gs:=
 h.reway (λk g j _=>c.block k g j) c.size d own (λk e=>.inr (f k e)) (by rw[<-h.nl,List.eraseIdx_eq_take_drop_succ,List.eraseIdx_eq_take_drop_succ,List.map_append,List.map_take,List.map_drop]) (λx m=>.inl (List.mem_of_mem_eraseIdx m))
end
end
section
variable {l:List (Option Nat)}
theorem q23 (h:l.Pairwise (λx y=>∀k,x=some k->y≠some k)) (i:Nat) {x:Option Nat} (r:∀k,x=some k->l[i]?=some (some k)\/∀y∈l,y≠some k):(l.set i x).Pairwise (λx y=>∀k,x=some k->y≠some k):=by
 refine List.pairwise_iff_getElem.2 λa c s t p k e d=>?_
 have f:a<l.length:=by simpa using s
 have j:c<l.length:=by simpa using t
 have P:=List.pairwise_iff_getElem.1 h;rw[List.getElem_set]at e d;split at e
 ·rename_i u;split at d
  ·omega
  ·rcases r k e with q|q
   ·rw[u,List.getElem?_eq_getElem f]at q;exact P a c f j p k (Option.some.inj q) d
   ·exact q _ (List.getElem_mem j) d
 ·split at d
  ·rename_i v;rcases r k d with q|q
   ·rw[v,List.getElem?_eq_getElem j]at q;exact P a c f j p k e (Option.some.inj q)
   ·exact q _ (List.getElem_mem f) e
  ·exact P a c f j p k e d
theorem q5g {w:World} {id:Int} (T:TypeId):RS (w.alloc (.cells (qcf (qmz id) (.slice none 0 0) (.slice none 0 0) (.slice none 0 0)).toArray T)) w.heap.size (λk=>k=w.heap.size) (λ_=>none) (qmz id):=by
 have B:=qag.new (w:=w) (T:=T) (qcf (qmz id) (.slice none 0 0) (.slice none 0 0) (.slice none 0 0)) rfl;refine⟨.slice none 0 0,.slice none 0 0,.slice none 0 0,[],[],⟨B,World.ownsRow_nil _ _ _ _,World.ownsRow_nil _ _ _ _,World.ownsRow_nil _ _ _ _,λh d=>(by cases d),by simp[Value.ownBlock],by simp[Value.ownBlock],by simp[Value.ownBlock],by simp[Value.ownBlock],by simp[Value.ownBlock],by simp[Value.ownBlock],λm a=>(by cases a)⟩,rfl,rfl,λk=>⟨λh=>.inl (.inl h),λh=>?_⟩,λ_ _ e=>(by cases e)⟩;rcases h with (h|h|h|h)|⟨m,a,_⟩
 ·exact h
 ·simp[Value.ownBlock]at h
 ·simp[Value.ownBlock]at h
 ·simp[Value.ownBlock]at h
 ·cases a
def qd0 (M:RoM) (k:Nat):Nat->qm0:=λi=>if i<k then qgx (M.bp i) (λ_=>none) (qmz i)else qqb (M.bs (i-k)) qg3
structure qpu (w0:World) (b n c k m:Nat) (M:RoM) (Gs:Nat->Nat->Prop) (w:World):Prop where
 box:qag w b [M.sv,M.wv,M.cv,M.av,M.yv,.int .i64 0]
 sr:w.ownsRow 0 45 1 M.sv k (qi2 M.bp k)
 wr:w.ownsRow 0 3 1 M.wv n (qf9 (λ_=>0) n)
 cr:w.ownsRow 0 62 1 M.cv m (qi2 M.bs m)
 ar:w.ownsRow 0 3 1 M.av c (qf9 (λ_=>0) c)
 yl:M.yv=.slice none 0 0/\M.l=[]/\M.F=λ_ _=>none
 fam:qbx w (k+m) (qd0 M k) Gs (qav b M) (k+m) NoY
 ap:(qd5 b M).Pairwise (λx y=>∀k,x=some k->y≠some k)
 gs:∀j q,j<k+m->Gs j q->w0.heap.size<=q
 ft:∀q,qav b M q->w0.heap.size<=q
 hb:Below w0.heap.size w0 w
theorem qn7 (bp:Nat->Nat) (n p:Nat):qi2 (λj=>if j=n then p else bp j) (n+1)=qi2 bp n++[.pointer (some ⟨p,0,none⟩)]:=by
 unfold qi2;rw[List.range_succ,List.map_append]
 congr 1
 ·refine List.map_congr_left (λj a=>?_);have:=List.mem_range.1 a;show Value.pointer (some ⟨if j=n then p else bp j,0,none⟩)=_;rw[if_neg (by omega)]
 ·simp
variable {q:Nat} {T:TypeId} {o:Obj}
section
variable {w0 w w2 wE:World} {b n c k m g cap:Nat} {M:RoM} {Gs:Nat->Nat->Prop}
theorem qpu.ltF (h:qpu w0 b n c k m M Gs w):∀q,qav b M q->q<w.heap.size:=λq e=>(h.fam.free q e).1
theorem qoe (hb:Below w.heap.size w w2) {r:Option Nat} (gr:w2.grownBy wE r) {s:Nat} {v:Value} (a:q<w.heap.size) (d:q≠b) (f:r≠some q):(wE.setCell ⟨b,s,none⟩ v).heap[q]?=w.heap[q]?:=
 (Below.heap_setCell _ _ _ _ d).trans ((gr.block q (Nat.lt_of_lt_of_le a hb.size) (λe=>f e.symm)).trans (hb.block q a))
theorem qpu.site (h:qpu w0 b n c k 0 M Gs w) (s:w2=(w.alloc (.cells (qcf (qmz k) (.slice none 0 0) (.slice none 0 0) (.slice none 0 0)).toArray T)).alloc o)
 (own:wE.ownsRow 0 45 1 (.slice (some ⟨g,0,none⟩) (k+1) cap) (k+1) (qi2 M.bp k++[.pointer (some ⟨w.heap.size,0,none⟩)])) (gr:w2.grownBy wE M.sv.ownBlock) (z:M.sv.ownBlock=some g\/g=w2.heap.size):
 qpu w0 b n c (k+1) 0 {M with sv:=.slice (some ⟨g,0,none⟩) (k+1) cap,bp:=λj=>if j=k then w.heap.size else M.bp j} (λj=>if j=k then (λq=>q=w.heap.size)else Gs j) (wE.setCell ⟨b,0,none⟩ (.slice (some ⟨g,0,none⟩) (k+1) cap)):=by
 have F:Below w.heap.size w (w.alloc (.cells (qcf (qmz k) (.slice none 0 0) (.slice none 0 0) (.slice none 0 0)).toArray T)):=boxed (Below.refl _ w) _
 have u:Below w.heap.size w w2:=by rw[s];exact boxed F _
 have s2:w2.heap.size=w.heap.size+2:=by rw[s];simp
 have O:=gr.size
 have d:(wE.setCell ⟨b,0,none⟩ (.slice (some ⟨g,0,none⟩) (k+1) cap)).heap.size=wE.heap.size:=by simp[World.setCell]
 have A:=(List.pairwise_cons.1 h.ap);have B:=(List.pairwise_cons.1 A.2);have P:=h.box.lt;have lv:∀q,q<w.heap.size->q≠b->M.sv.ownBlock≠some q->(wE.setCell ⟨b,0,none⟩ (.slice (some ⟨g,0,none⟩) (k+1) cap)).heap[q]?=w.heap[q]?:=λq H I J=>qoe u gr H I J;have row:∀{x:Option Nat},x∈[M.wv.ownBlock,M.cv.ownBlock,M.av.ownBlock,M.yv.ownBlock]->∀q,x=some q->(wE.setCell ⟨b,0,none⟩ (.slice (some ⟨g,0,none⟩) (k+1) cap)).heap[q]?=w.heap[q]?:=λ{x} hx q e=>lv q (h.ltF q (by rw[e]at hx;exact List.mem_cons_of_mem _ (List.mem_cons_of_mem _ hx))) (λa=>A.1 x (List.mem_cons_of_mem _ hx) b rfl (by rw[e,a])) (λa=>B.1 x hx q a e)
 have K:g≠b:=λe=>by
  rcases z with q|q
  ·exact A.1 M.sv.ownBlock (by simp) b rfl (by rw[q,e])
  ·omega
 have nv:∀q,(Value.slice (some ⟨g,0,none⟩) (k+1) cap).ownBlock=some q->M.sv.ownBlock=some q\/w.heap.size+2<=q:=λq e=>by
  have L:g=q:=Option.some.inj e;subst L;exact z.imp id (λq=>by omega)
 have C:∀q,qav b {M with sv:=.slice (some ⟨g,0,none⟩) (k+1) cap,bp:=λj=>if j=k then w.heap.size else M.bp j} q->qav b M q\/w.heap.size+2<=q:=λq e=>by
  have e:some q∈some b::(Value.slice (some ⟨g,0,none⟩) (k+1) cap).ownBlock::[M.wv.ownBlock,M.cv.ownBlock,M.av.ownBlock,M.yv.ownBlock]:=e;rcases List.mem_cons.1 e with e|e
  ·exact .inl (List.mem_cons.2 (.inl e))
  ·rcases List.mem_cons.1 e with e|e
   ·exact(nv q e.symm).imp (λr=>by unfold qav qd5;rw[r];simp) id
   ·exact .inl (List.mem_cons_of_mem _ (List.mem_cons_of_mem _ e))
 have Q:=h.hb.size;refine⟨?_,?_,qad h.wr (row (by simp)),qad h.cr (row (by simp)),qad h.ar (row (by simp)),h.yl,?_,?_,λj q f e=>?_,λq e=>?_,?_⟩
 ·have:=((h.box.later u).grown gr (λe=>A.1 M.sv.ownBlock (by simp) b rfl e.symm)).set 0 (.slice (some ⟨g,0,none⟩) (k+1) cap) (by simp);exact this
 ·show World.ownsRow _ 0 _ 1 _ (k+1) (qi2 (λj=>if j=k then w.heap.size else M.bp j) (k+1));rw[qn7];exact qad own (λq e=>Below.heap_setCell _ _ _ _ (λa=>K ((Option.some.inj e).trans a)))
 ·have N:RS (wE.setCell ⟨b,0,none⟩ (.slice (some ⟨g,0,none⟩) (k+1) cap)) w.heap.size (λq=>q=w.heap.size) (λ_=>none) (qmz k):=by
   refine(q5g (w:=w) (id:=k) T).kept (λq e=>?_) (by rw[d];simp;omega);have e:q=w.heap.size:=e;subst e;refine(Below.heap_setCell _ _ _ _ (by simp only;omega)).trans ((gr.block _ (by omega) (λe=>?_)).trans ?_)
   ·have:=h.ltF w.heap.size (by unfold qav qd5;rw[<-e];simp);omega
   ·rw[s];exact(boxed (Below.refl _ (w.alloc (.cells (qcf (qmz k) (.slice none 0 0) (.slice none 0 0) (.slice none 0 0)).toArray T))) o).block _ (by simp)
  refine h.fam.snoc (n:=k) (G:=λq=>q=w.heap.size) (λj q f e=>lv q ((qd0 M k j).lt _ _ (h.fam.is j f) q e) (λa=>(h.fam.free b (by simp[qav,qd5])).2 j f (by rw[<-a];exact e)) (λa=>(h.fam.free q (by unfold qav qd5;rw[a];simp)).2 j f e)) (by rw[d];omega) ?_ (λq e=>by omega) (λi v=>?_) (λq e=>?_)
  ·show (qd0 _ (k+1) k).is _ _;unfold qd0;rw[if_pos (by omega)];show RS _ (if k=k then w.heap.size else M.bp k) _ _ _;rw[if_pos rfl];exact N
  ·have v:i<k:=v;unfold qd0;rw[if_pos (by omega),if_pos v];show qgx (if i=k then w.heap.size else M.bp i) _ _=_;rw[if_neg (by omega)]
  ·rcases C q e with r|r
   ·have:=h.ltF q r;exact⟨.inl r,by rw[d];omega,λa=>by omega⟩
   ·refine⟨.inr (by omega),?_,λa=>by omega⟩;rw[d];have e:some q∈some b::(Value.slice (some ⟨g,0,none⟩) (k+1) cap).ownBlock::[M.wv.ownBlock,M.cv.ownBlock,M.av.ownBlock,M.yv.ownBlock]:=e;rcases List.mem_cons.1 e with e|e
    ·injection e with e;omega
    ·rcases List.mem_cons.1 e with e|e
     ·exact(own.lt q e.symm).2
     ·have:=h.ltF q (List.mem_cons_of_mem _ (List.mem_cons_of_mem _ e));omega
 ·refine q23 h.ap 1 (x:=(Value.slice (some ⟨g,0,none⟩) (k+1) cap).ownBlock) (λq e=>?_);rcases nv q e with r|r
  ·exact .inl (by show some M.sv.ownBlock=_;rw[r])
  ·refine .inr (λy D a=>?_);have:=h.ltF q (by rw[a]at D;exact D);omega
 ·have e:(if j=k then (λq=>q=w.heap.size)else Gs j) q:=e;by_cases E:j=k
  ·rw[if_pos E]at e;omega
  ·rw[if_neg E]at e;exact h.gs j q (by omega) e
 ·rcases C q e with r|r
  ·exact h.ft q r
  ·omega
 ·exact((qac h.hb u).grown gr (by omega) (λq e=>h.ft q (by unfold qav qd5;rw[<-e];simp))).setCell (p:=⟨b,0,none⟩) (h.ft b (by simp[qav,qd5])) _
theorem qr9 (h:l.Pairwise (λx y=>∀k,x=some k->y≠some k)) {i j:Nat} (a:i≠j) (d:l[i]?=some (some q)):l[j]?≠some (some q):=λe=>by
 have P:=List.pairwise_iff_getElem.1 h;obtain⟨a1,a2⟩:=List.getElem?_eq_some_iff.1 d;obtain⟨c1,c2⟩:=List.getElem?_eq_some_iff.1 e;rcases Nat.lt_or_gt_of_ne a with q|q
 ·exact P i j a1 c1 q _ a2 c2
 ·exact P j i c1 a1 q _ c2 a2
theorem qpu.ses (h:qpu w0 b n c k m M Gs w) (u:w2=(w.alloc (.cells (qbl qg3 (.slice none 0 0)).toArray T)).alloc o)
 (own:wE.ownsRow 0 62 1 (.slice (some ⟨g,0,none⟩) (m+1) cap) (m+1) (qi2 M.bs m++[.pointer (some ⟨w.heap.size,0,none⟩)])) (gr:w2.grownBy wE M.cv.ownBlock) (A:M.cv.ownBlock=some g\/g=w2.heap.size):
 qpu w0 b n c k (m+1) {M with cv:=.slice (some ⟨g,0,none⟩) (m+1) cap,bs:=λj=>if j=m then w.heap.size else M.bs j} (λj=>if j=k+m then (λq=>q=w.heap.size)else Gs j) (wE.setCell ⟨b,2,none⟩ (.slice (some ⟨g,0,none⟩) (m+1) cap)):=by
 have F:Below w.heap.size w (w.alloc (.cells (qbl qg3 (.slice none 0 0)).toArray T)):=boxed (Below.refl _ w) _
 have v:Below w.heap.size w w2:=by rw[u];exact boxed F _
 have s2:w2.heap.size=w.heap.size+2:=by rw[u];simp
 have N:=gr.size
 have d:(wE.setCell ⟨b,2,none⟩ (.slice (some ⟨g,0,none⟩) (m+1) cap)).heap.size=wE.heap.size:=by simp[World.setCell]
 have O:=h.box.lt;have B:M.cv.ownBlock≠some b:=λe=>qr9 h.ap (i:=0) (j:=3) (q:=b) (by decide) rfl (by show some M.cv.ownBlock=_;rw[e]);have lv:∀q,q<w.heap.size->q≠b->M.cv.ownBlock≠some q->(wE.setCell ⟨b,2,none⟩ (.slice (some ⟨g,0,none⟩) (m+1) cap)).heap[q]?=w.heap[q]?:=λq H I z=>qoe v gr H I z;have row:∀{j:Nat} (_:j≠0) (_:j≠3) (q:Nat),(qd5 b M)[j]?=some (some q)->(wE.setCell ⟨b,2,none⟩ (.slice (some ⟨g,0,none⟩) (m+1) cap)).heap[q]?=w.heap[q]?:=λ{j} h0 z q e=>lv q (h.ltF q (List.mem_of_getElem? e)) (λa=>qr9 h.ap (i:=0) (j:=j) (q:=b) (λe=>h0 e.symm) rfl (by rw[e,a])) (λa=>qr9 h.ap (i:=3) (j:=j) (q:=q) (λe=>z e.symm) (by show some M.cv.ownBlock=_;rw[a]) e)
 have J:g≠b:=λe=>by
  rcases A with q|q
  ·exact B (by rw[q,e])
  ·omega
 have nv:∀q,(Value.slice (some ⟨g,0,none⟩) (m+1) cap).ownBlock=some q->M.cv.ownBlock=some q\/w.heap.size+2<=q:=λq e=>by
  have K:g=q:=Option.some.inj e;subst K;exact A.imp id (λq=>by omega)
 have C:∀q,qav b {M with cv:=.slice (some ⟨g,0,none⟩) (m+1) cap,bs:=λj=>if j=m then w.heap.size else M.bs j} q->qav b M q\/(w.heap.size+2<=q/\q<wE.heap.size):=λq e=>by
  have e:some q∈[some b,M.sv.ownBlock,M.wv.ownBlock]++((Value.slice (some ⟨g,0,none⟩) (m+1) cap).ownBlock::[M.av.ownBlock,M.yv.ownBlock]):=e;rcases List.mem_append.1 e with e|e
  ·exact .inl (List.mem_append_left [M.cv.ownBlock,M.av.ownBlock,M.yv.ownBlock] e)
  ·rcases List.mem_cons.1 e with e|e
   ·exact(nv q e.symm).imp (λr=>by unfold qav qd5;rw[r];simp) (λr=>⟨r,(own.lt q e.symm).2⟩)
   ·exact .inl (List.mem_append_right [some b,M.sv.ownBlock,M.wv.ownBlock] (List.mem_cons_of_mem _ e))
 have P:=h.hb.size;refine⟨?_,qad h.sr (λq e=>row (j:=1) (by decide) (by decide) q (by show some M.sv.ownBlock=_;rw[e])),qad h.wr (λq e=>row (j:=2) (by decide) (by decide) q (by show some M.wv.ownBlock=_;rw[e])),?_,qad h.ar (λq e=>row (j:=4) (by decide) (by decide) q (by show some M.av.ownBlock=_;rw[e])),h.yl,?_,?_,λj q f e=>?_,λq e=>?_,?_⟩
 ·have:=((h.box.later v).grown gr (λe=>B e.symm)).set 2 (.slice (some ⟨g,0,none⟩) (m+1) cap) (by simp);exact this
 ·show World.ownsRow _ 0 _ 1 _ (m+1) (qi2 (λj=>if j=m then w.heap.size else M.bs j) (m+1));rw[qn7];exact qad own (λq e=>Below.heap_setCell _ _ _ _ (λa=>J ((Option.some.inj e).trans a)))
 ·have L:RSe (wE.setCell ⟨b,2,none⟩ (.slice (some ⟨g,0,none⟩) (m+1) cap)) w.heap.size (λq=>q=w.heap.size) qg3:=by
   refine(q4f (w:=w) T).kept (λq e=>?_) (by rw[d];simp;omega);have e:q=w.heap.size:=e;subst e;refine(Below.heap_setCell _ _ _ _ (by simp only;omega)).trans ((gr.block _ (by omega) (λe=>?_)).trans ?_)
   ·have:=h.ltF w.heap.size (by unfold qav qd5;rw[<-e];simp);omega
   ·rw[u];exact(boxed (Below.refl _ (w.alloc (.cells (qbl qg3 (.slice none 0 0)).toArray T))) o).block _ (by simp)
  refine h.fam.snoc (n:=k+m) (G:=λq=>q=w.heap.size) (λj q f e=>lv q ((qd0 M k j).lt _ _ (h.fam.is j f) q e) (λa=>(h.fam.free b (by simp[qav,qd5])).2 j f (by rw[<-a];exact e)) (λa=>(h.fam.free q (by unfold qav qd5;rw[a];simp)).2 j f e)) (by rw[d];omega) ?_ (λq e=>by omega) (λi Q=>?_) (λq e=>?_)
  ·show (qd0 _ k (k+m)).is _ _;unfold qd0;rw[if_neg (by omega)];show RSe _ (if k+m-k=m then w.heap.size else M.bs (k+m-k)) _ _;rw[if_pos (by omega)];exact L
  ·unfold qd0;by_cases s:i<k
   ·rw[if_pos s,if_pos s]
   ·rw[if_neg s,if_neg s];show qqb (if i-k=m then w.heap.size else M.bs (i-k)) _=_;rw[if_neg (by omega)]
  ·rcases C q e with r|r
   ·have:=h.ltF q r;exact⟨.inl r,by rw[d];omega,λa=>by omega⟩
   ·exact⟨.inr (by omega),by rw[d];exact r.2,λa=>by omega⟩
 ·refine q23 h.ap 3 (x:=(Value.slice (some ⟨g,0,none⟩) (m+1) cap).ownBlock) (λq e=>?_);rcases nv q e with r|r
  ·exact .inl (by show some M.cv.ownBlock=_;rw[r])
  ·refine .inr (λy D a=>?_);have:=h.ltF q (by rw[a]at D;exact D);omega
 ·have e:(if j=k+m then (λq=>q=w.heap.size)else Gs j) q:=e;by_cases E:j=k+m
  ·rw[if_pos E]at e;omega
  ·rw[if_neg E]at e;exact h.gs j q (by omega) e
 ·rcases C q e with r|r
  ·exact h.ft q r
  ·omega
 ·exact((qac h.hb v).grown gr (by omega) (λq e=>h.ft q (by unfold qav qd5;rw[<-e];simp))).setCell (p:=⟨b,2,none⟩) (h.ft b (by simp[qav,qd5])) _
theorem qpu.done (h:qpu w0 b n c n c M Gs w):RW w b (qli b M (n+c) Gs) (ql4 n c)/\∀q,qli b M (n+c) Gs q->w0.heap.size<=q:=by
 obtain⟨f,a,p⟩:=h.yl;refine⟨⟨M,Gs,⟨h.box,h.sr,h.wr,h.cr,h.ar,?_,by rw[a];rfl,λx d=>(by rw[a]at d;cases d),?_,h.ap⟩,λ_=>Iff.rfl⟩,λq r=>r.elim (h.ft q) (λ⟨j,s,e⟩=>h.gs j q s e)⟩
 ·rw[f,a];exact World.ownsRow_nil _ _ _ _
 ·have:qeq M (ql4 n c)=qd0 M n:=by
   funext i
   unfold qeq qd0;rw[p];rfl
  rw[this];exact h.fam
theorem qpu.first {g g':Nat} (a:qag w b [.slice none 0 0,.slice (some ⟨g,0,none⟩) n n,.slice none 0 0,.slice (some ⟨g',0,none⟩) c c,.slice none 0 0,.int .i64 0]) (d:w.ownsRow 0 3 1 (.slice (some ⟨g,0,none⟩) n n) n (qf9 (λ_=>0) n)) (f:w.ownsRow 0 3 1 (.slice (some ⟨g',0,none⟩) c c) c (qf9 (λ_=>0) c)) (a1:g≠g') (a2:g≠b) (a3:g'≠b) (f1:w0.heap.size<=g) (f2:w0.heap.size<=g') (f3:w0.heap.size<=b) (hb:Below w0.heap.size w0 w):
 qpu w0 b n c 0 0 ⟨.slice none 0 0,.slice (some ⟨g,0,none⟩) n n,.slice none 0 0,.slice (some ⟨g',0,none⟩) c c,.slice none 0 0,λ_=>0,λ_=>0,λ_ _=>none,[]⟩ (λ_ _=>False) w:=by
 have foot:∀q,qav b ⟨.slice none 0 0,.slice (some ⟨g,0,none⟩) n n,.slice none 0 0,.slice (some ⟨g',0,none⟩) c c,.slice none 0 0,λ_=>0,λ_=>0,λ_ _=>none,[]⟩ q->q=b\/q=g\/q=g':=λq e=>by
  have e:some q∈[some b,none,some g,none,some g',none]:=e;simpa using e
 refine⟨a,World.ownsRow_nil _ _ _ _,d,World.ownsRow_nil _ _ _ _,f,⟨rfl,rfl,rfl⟩,⟨λi h=>by omega,λi j q h=>by omega,λq e=>⟨?_,λi h=>by omega⟩,λq e=>e.elim⟩,?_,λj q p=>by omega,λq e=>?_,hb⟩
 ·rcases foot q e with e|e|e
  ·rw[e];exact a.lt
  ·rw[e];exact(d.lt g rfl).2
  ·rw[e];exact(f.lt g' rfl).2
 ·show [some b,none,some g,none,some g',none].Pairwise _;simp;omega
 ·rcases foot q e with e|e|e<;>omega
end
end
section
open Tryz Go.Value Go.IntKind
theorem qx8:(prog.info? 45).map (λi=>(i.zero,i.size,i.bytes))=some (some (.pointer none),1,8):=by kernel_rfl
theorem q0g:(prog.info? 62).map (λi=>(i.zero,i.size,i.bytes))=some (some (.pointer none),1,8):=by kernel_rfl
theorem quf:(prog.info? 3).map (λi=>(i.zero,i.size,i.bytes))=some (some (int i64 0),1,8):=by kernel_rfl
variable {n:Nat}
theorem qvq {w w':World} {B N:Nat} {T:TypeId} {v:Value} {xs:List Value} (h:w.ownsRow B T N v n xs) (hb:Below w.heap.size w w'):w'.ownsRow B T N v n xs:=qad h (λk e=>hb.block k (h.lt k e).2)
theorem qo8 (a:n<=6) (w:World):(Instr.makeSlice 40 (int i64 n) (int i64 n)).run prog w=.ok (.slice (some ⟨w.heap.size,0,none⟩) n n) (w.alloc (.cells (madeCells #[int i64 0] n) 3)):=
 run_make_row' _ 3 (int i64 0) 8 underlying40 quf rfl .i64 .i64 n (by omega) (by omega) w
theorem qlk (c:n<=6) (w:World):(w.alloc (.cells (madeCells #[int i64 0] n) 3)).ownsRow 0 3 1 (.slice (some ⟨w.heap.size,0,none⟩) n n) n (qf9 (λ_=>0) n):=by
 obtain⟨d,e,f,g,h⟩:=info_parts quf;obtain⟨i,a,b,_⟩:=run_make_full (P:=prog) w 0 40 3 d (int i64 0) 1 underlying40 e f g .i64 .i64 n (by rw[h];omega) (by simp[maxLen];omega) (by omega);rw[qo8 c]at a;injection a with e1 e2;rw[<-e2,show (Value.int .i64 0).cells=#[Value.int .i64 0]from rfl,Nat.mul_one,toList_madeCells_one]at b;rw[show qf9 (λ_=>0) n=List.replicate n (int i64 0) by unfold qf9;rw[List.map_const'];simp];exact b
theorem q5a {c:Nat} (h1:1<=n) (h4:n<=4) (h6:c<=6) (w:World):
 Calls prog 8 #[int i64 n,int i64 c] w λe w'=>e=.returned (.tuple #[.pointer (some ⟨w.heap.size+1+1,0,none⟩),int i64 0])/\∃G,RW w' (w.heap.size+1+1) G (ql4 n c)/\(∀k,G k->w.heap.size<=k)/\Below w.heap.size w w':=by
 obtain⟨i0,hi0,hz0,hz1,hz2⟩:=info_parts qx8;obtain⟨i5,hi5,hy0,hy1,hy2⟩:=info_parts q0g;have O:=qhq n 1 4 w;have P:=qhq c 0 6 w;rw[qa5.2 (⟨by omega,by omega⟩:(1:Int)<=n/\(n:Int)<=4)]at O;rw[qa5.2 (⟨by omega,by omega⟩:(0:Int)<=c/\(c:Int)<=6)]at P;have s:Hid (n<=4/\c<=6):=⟨h4,h6⟩;have M1:=λw'=>qo8 (n:=n) (by omega) w';have M2:=λw'=>qo8 (n:=c) (by omega) w'
 have Q:Hid (∃M b,qpu w (w.heap.size+1+1) n c 0 0 M b ((((w.alloc (.cells (madeCells #[int i64 0] n) 3)).alloc (.cells (madeCells #[int i64 0] c) 3)).alloc (.cells #[.slice none 0 0,.slice (some ⟨w.heap.size,0,none⟩) n n,.slice none 0 0,.slice (some ⟨w.heap.size+1,0,none⟩) c c,.slice none 0 0,int i64 0] 44)).drew)):=by
  have S:=boxed (Below.refl _ w) (.cells (madeCells #[int i64 0] n) 3);have v:=boxed (Below.refl _ (w.alloc (.cells (madeCells #[int i64 0] n) 3))) (.cells (madeCells #[int i64 0] c) 3);have l:=(boxed (Below.refl _ ((w.alloc (.cells (madeCells #[int i64 0] n) 3)).alloc (.cells (madeCells #[int i64 0] c) 3))) (.cells #[.slice none 0 0,.slice (some ⟨w.heap.size,0,none⟩) n n,.slice none 0 0,.slice (some ⟨w.heap.size+1,0,none⟩) c c,.slice none 0 0,int i64 0] 44)).drew;have R:=(qag.new (w:=(w.alloc (.cells (madeCells #[int i64 0] n) 3)).alloc (.cells (madeCells #[int i64 0] c) 3)) (T:=44) (n:=w.heap.size+1+1) [.slice none 0 0,.slice (some ⟨w.heap.size,0,none⟩) n n,.slice none 0 0,.slice (some ⟨w.heap.size+1,0,none⟩) c c,.slice none 0 0,int i64 0] (by simp)).drew;have U:=qlk (n:=n) (by omega) w;have x:=qlk (n:=c) (by omega) (w.alloc (.cells (madeCells #[int i64 0] n) 3));rw[World.size_alloc]at x;exact⟨_,_,qpu.first R (qvq (qvq U v) l) (qvq x l) (by omega) (by omega) (by omega) (Nat.le_refl _) (by omega) (by omega) (qac (qac S v) l)⟩
 have V:Hid (∃M b,qpu w (w.heap.size+1+1) n c 0 0 M b ((((w.alloc (.cells (madeCells #[int i64 0] c) 3)).alloc (.cells (madeCells #[int i64 0] n) 3)).alloc (.cells #[.slice none 0 0,.slice (some ⟨w.heap.size+1,0,none⟩) n n,.slice none 0 0,.slice (some ⟨w.heap.size,0,none⟩) c c,.slice none 0 0,int i64 0] 44)).drew)):=by
  have S:=boxed (Below.refl _ w) (.cells (madeCells #[int i64 0] c) 3);have v:=boxed (Below.refl _ (w.alloc (.cells (madeCells #[int i64 0] c) 3))) (.cells (madeCells #[int i64 0] n) 3);have l:=(boxed (Below.refl _ ((w.alloc (.cells (madeCells #[int i64 0] c) 3)).alloc (.cells (madeCells #[int i64 0] n) 3))) (.cells #[.slice none 0 0,.slice (some ⟨w.heap.size+1,0,none⟩) n n,.slice none 0 0,.slice (some ⟨w.heap.size,0,none⟩) c c,.slice none 0 0,int i64 0] 44)).drew;have R:=(qag.new (w:=(w.alloc (.cells (madeCells #[int i64 0] c) 3)).alloc (.cells (madeCells #[int i64 0] n) 3)) (T:=44) (n:=w.heap.size+1+1) [.slice none 0 0,.slice (some ⟨w.heap.size+1,0,none⟩) n n,.slice none 0 0,.slice (some ⟨w.heap.size,0,none⟩) c c,.slice none 0 0,int i64 0] (by simp)).drew;have U:=qlk (n:=c) (by omega) w;have x:=qlk (n:=n) (by omega) (w.alloc (.cells (madeCells #[int i64 0] c) 3));rw[World.size_alloc]at x;exact⟨_,_,qpu.first R (qvq x l) (qvq (qvq U v) l) (by omega) (by omega) (by omega) (by omega) (Nat.le_refl _) (by omega) (qac (qac S v) l)⟩
 clear h1 h4 h6;go_enter func8,ntmps8
 go_wp2_with (first|(go_at_call 30;with_reducible refine O.mono ?_;rintro e w1 ⟨rfl,B⟩;have W:=B.symm;clear B;subst W)|(go_at_call 30;with_reducible refine P.mono ?_;rintro e w1 ⟨rfl,B⟩;have W:=B.symm;clear B;subst W))
 go_region
 all_goals
  first
   |(obtain⟨C,D⟩:∃C,(((w.alloc (.cells (madeCells #[int i64 0] n) 3)).alloc (.cells (madeCells #[int i64 0] c) 3)).alloc (.cells #[.slice none 0 0,.slice (some ⟨w.heap.size,0,none⟩) n n,.slice none 0 0,.slice (some ⟨w.heap.size+1,0,none⟩) c c,.slice none 0 0,int i64 0] 44)).drew=C:=⟨_,rfl⟩
     rw[D]at Q ⊢;have X:=Q
     clear D)
   |(obtain⟨C,D⟩:∃C,(((w.alloc (.cells (madeCells #[int i64 0] c) 3)).alloc (.cells (madeCells #[int i64 0] n) 3)).alloc (.cells #[.slice none 0 0,.slice (some ⟨w.heap.size+1,0,none⟩) n n,.slice none 0 0,.slice (some ⟨w.heap.size,0,none⟩) c c,.slice none 0 0,int i64 0] 44)).drew=C:=⟨_,rfl⟩
     rw[D]at V ⊢;have X:=V
     clear D)
  go_wp2_with fail
  go_loopw [23] (λiv wr=>∃(k:Nat) (z:Int) (M:RoM) (b:Nat->Nat->Prop),k<=n/\z=k/\iv=int i64 z/\Hid (qpu w (w.heap.size+1+1) n c k 0 M b wr)) (λiv _=>n-(intOf iv).toNat)
  case atStart=>
   obtain⟨M,b,h⟩:=X.out;exact⟨0,0,M,b,by omega,rfl,rfl,h⟩
  case round=>
   clear X Q V M1 M2 O P;obtain⟨k,z,M,b,hk,Y,rfl,a⟩:=hrel;have L:Hid _:=Y;by_cases hlt:k<n
   ·have N:z<(n:Int):=by omega
    have g3:0<=z:=by omega
    have g4:z<4:=by have:=s.out;omega
    obtain⟨sa,Z,d,r⟩:=qan a.out.sr;have p:Hid _:=d;have g:=a.out.box;rw[d]at g;have c0:=g.cell 0 _ rfl;have hlw:=g.lt;have E:Below wr.heap.size wr ((wr.alloc (.cells #[int i64 z,int i64 0,int i64 0,int i64 0,int i64 0,int i64 0,int i64 0,.slice none 0 0,.slice none 0 0,.slice none 0 0,int i64 0,int i64 0,int i64 0,int i64 0,int i64 0,int i64 0,int i64 0,int i64 0,int i64 0,int i64 0,int i64 0,int i64 0,int i64 0,int i64 0,int i64 0,int i64 0] 59)).alloc (.cells #[.pointer (some ⟨wr.heap.size,0,none⟩)] 45)):=boxed (boxed (Below.refl _ wr) _) _;have F:=qad a.out.sr (λq e=>E.block q (a.out.sr.lt q e).2);rw[d]at F;have B2:=g.later E;have HNB:Hid (M.sv.ownBlock≠some (w.heap.size+1+1)):=λe=>qr9 a.out.ap (i:=0) (j:=1) (by decide) rfl (by show some M.sv.ownBlock=_;rw[e]);have H:=World.news_of_block (heap_alloc_new (wr.alloc (.cells #[int i64 z,int i64 0,int i64 0,int i64 0,int i64 0,int i64 0,int i64 0,.slice none 0 0,.slice none 0 0,.slice none 0 0,int i64 0,int i64 0,int i64 0,int i64 0,int i64 0,int i64 0,int i64 0,int i64 0,int i64 0,int i64 0,int i64 0,int i64 0,int i64 0,int i64 0,int i64 0,int i64 0] 59)) (.cells #[.pointer (some ⟨wr.heap.size,0,none⟩)] 45));rw[World.size_alloc]at H;have hrl:=r.len;clear Y r d
    go_wp2_with (at_builtin;refine wpList_append_lies _ rfl (.tmp 30) (.tmp 34) 39 rfl 0 45 i0 (.pointer none) 1 8 underlying39 hi0 hz0 hz1 hz2 rfl (by decide) (.slice sa k Z) k (qi2 M.bp k) rfl F ⟨wr.heap.size+1,0,none⟩ 1 1 [.pointer (some ⟨wr.heap.size,0,none⟩)] rfl rfl H (by intro u I;simp at I;rw[I];rfl) (by decide) (by have:=s.out;simp only[maxLen];omega) (by have:=s.out;omega) (Nat.zero_le _) _ rfl ?_;intro g9 cap9 wE ownE J egE ltE;have K:qag wE (w.heap.size+1+1) _:=B2.grown J (λe=>HNB.out (by rw[p.out];exact e.symm));have e0:=K.cell 0 _ rfl;have f0:=K.free 0 (by simp))
    have NX:Hid _:=a.out.site (w2:=(wr.alloc (.cells #[int i64 z,int i64 0,int i64 0,int i64 0,int i64 0,int i64 0,int i64 0,.slice none 0 0,.slice none 0 0,.slice none 0 0,int i64 0,int i64 0,int i64 0,int i64 0,int i64 0,int i64 0,int i64 0,int i64 0,int i64 0,int i64 0,int i64 0,int i64 0,int i64 0,int i64 0,int i64 0,int i64 0] 59)).alloc (.cells #[.pointer (some ⟨wr.heap.size,0,none⟩)] 45)) (T:=59) (o:=(.cells #[.pointer (some ⟨wr.heap.size,0,none⟩)] 45)) (by rw[L.out];rfl) ownE (by rw[p.out];exact J) (by rw[p.out];simpa using egE)
    go_roundw
    case rel=>exact⟨k+1,z+1,_,_,by omega,by have:=L.out;omega,by go_num,NX.out⟩
    case measure=>simp[intOf];have:=L.out;omega
   ·have N:¬z<(n:Int):=by omega
    have ek:k=n:=by omega
    subst ek;have H0:Hid _:=a;clear Y hlt L
    go_wp2_with fail
    clear N
    go_loopw [40] (λiv wr=>∃(m:Nat) (y:Int) (M:RoM) (b:Nat->Nat->Prop),m<=c/\y=m/\iv=int i64 y/\Hid (qpu w (w.heap.size+1+1) k c k m M b wr)) (λiv _=>c-(intOf iv).toNat)
    case atStart=>exact⟨0,0,M,b,by omega,rfl,rfl,H0.out⟩
    case round=>
     clear H0 a;obtain⟨m,y,M,b,hm,hy,rfl,a⟩:=hrel;have HY:Hid _:=hy;by_cases hml:m<c
     ·have N:y<(c:Int):=by omega
      have g3:0<=y:=by omega
      have g4:y<6:=by have:=s.out;omega
      obtain⟨sa,Z,d,r⟩:=qan a.out.cr;have p:Hid _:=d;have g:=a.out.box;rw[d]at g;have c0:=g.cell 2 _ rfl;have hlw:=g.lt;have E:Below wr.heap.size wr ((wr.alloc (.cells #[int i64 0,int i64 0,int i64 0,int i64 0,int i64 0,int i64 0,int i64 0,int i64 0,.bool false,.slice none 0 0] 67)).alloc (.cells #[.pointer (some ⟨wr.heap.size,0,none⟩)] 62)):=boxed (boxed (Below.refl _ wr) _) _;have F:=qad a.out.cr (λq e=>E.block q (a.out.cr.lt q e).2);rw[d]at F;have B2:=g.later E;have HNB:Hid (M.cv.ownBlock≠some (w.heap.size+1+1)):=λe=>qr9 a.out.ap (i:=0) (j:=3) (by decide) rfl (by show some M.cv.ownBlock=_;rw[e]);have H:=World.news_of_block (heap_alloc_new (wr.alloc (.cells #[int i64 0,int i64 0,int i64 0,int i64 0,int i64 0,int i64 0,int i64 0,int i64 0,.bool false,.slice none 0 0] 67)) (.cells #[.pointer (some ⟨wr.heap.size,0,none⟩)] 62));rw[World.size_alloc]at H;have hrl:=r.len;clear hy r d
      go_wp2_with (at_builtin;refine wpList_append_lies _ rfl (.tmp 46) (.tmp 49) 41 rfl 0 62 i5 (.pointer none) 1 8 underlying41 hi5 hy0 hy1 hy2 rfl (by decide) (.slice sa m Z) m (qi2 M.bs m) rfl F ⟨wr.heap.size+1,0,none⟩ 1 1 [.pointer (some ⟨wr.heap.size,0,none⟩)] rfl rfl H (by intro u I;simp at I;rw[I];rfl) (by decide) (by have:=s.out;simp only[maxLen];omega) (by have:=s.out;omega) (Nat.zero_le _) _ rfl ?_;intro g9 cap9 wE ownE J egE ltE;have K:qag wE (w.heap.size+1+1) _:=B2.grown J (λe=>HNB.out (by rw[p.out];exact e.symm));have e0:=K.cell 2 _ rfl;have f0:=K.free 2 (by simp))
      have NX:Hid _:=a.out.ses (T:=67) (o:=(.cells #[.pointer (some ⟨wr.heap.size,0,none⟩)] 62)) rfl ownE (by rw[p.out];exact J) (by rw[p.out];simpa using egE)
      go_roundw
      case rel=>exact⟨m+1,y+1,_,_,by omega,by have:=HY.out;omega,by go_num,NX.out⟩
      case measure=>simp[intOf];have:=HY.out;omega
     ·have N:¬y<(c:Int):=by omega
      have em:m=c:=by omega
      subst em;clear hy
      go_wp2_with fail
      go_ret2;exact⟨rfl,_,a.out.done.1,a.out.done.2,a.out.hb⟩
theorem qyd {n c:Int} (i:¬((1<=n/\n<=4)/\(0<=c/\c<=6))) (w:World):
 Calls prog 8 #[int i64 n,int i64 c] w λe w'=>e=.returned (.tuple #[.pointer none,int i64 2])/\Below w.heap.size w w':=by
 have h:=qhq n 1 4 w;have j:=qhq c 0 6 w;by_cases b:1<=n/\n<=4
 ·rw[qa5.2 b]at h
  have d:inB c 0 6=false:=by
   cases q:inB c 0 6
   ·rfl
   ·exact absurd ⟨b,qa5.1 q⟩ i
  rw[d]at j;clear b i d;go_enter func8,ntmps8
  go_wp2_with (first|(go_at_call 30;with_reducible refine h.mono ?_;rintro e k ⟨rfl,a⟩;have g:=a.symm;clear a;subst g)|(go_at_call 30;with_reducible refine j.mono ?_;rintro e k ⟨rfl,a⟩;have g:=a.symm;clear a;subst g))
  go_ret2;exact⟨rfl,Below.refl _ _⟩
 ·have d:inB n 1 4=false:=by
   cases q:inB n 1 4
   ·rfl
   ·exact absurd (qa5.1 q) b
  rw[d]at h;clear b i d j;go_enter func8,ntmps8
  go_wp2_with (go_at_call 30;with_reducible refine h.mono ?_;rintro e k ⟨rfl,a⟩;have g:=a.symm;clear a;subst g)
  go_ret2;exact⟨rfl,Below.refl _ _⟩
end
open Go.Value Go.IntKind
theorem qnd {b l:Nat} {wv:Value} {s:qbp} {G:Nat->Prop} {F:Nat->Option Obj} {S:qaf} (key:Int) (w:World) (h:qla w b wv s) (g:RS w l G F S) (i:qcr S):
 Calls Tryz.prog 34 #[.pointer (some ⟨b,0,none⟩),.pointer (some ⟨l,0,none⟩),int i64 key] w λe w'=>e=.returned (.tuple #[.string (qc0 S s key).1,int i64 (qc0 S s key).2])/\Below w.heap.size w w':=by
 have D:Hid _:=h;have p:Hid (RS w l G F S/\qcr S):=⟨g,i⟩;have j:=h.box.cell 8 _ rfl;have a:=qki key w h;cases ho:s.opn
 ·rw[ho]at j
  have c:Hid (qc0 S s key=(⟨#[]⟩,6)):=by show _=_;unfold qc0;rw[ho];rfl
  clear h g i ho a;rw[c.out];go_enter Tryz.func34,Tryz.ntmps34
  go_wp2_with fail
  go_ret2;exact⟨rfl,Below.refl _ _⟩
 ·rw[ho]at j;cases hw:qe7 s.ws key with
  |none=>
   obtain⟨⟨⟨q,r,u,v,n,y⟩,z⟩,o⟩:∃x,qer S key s.s0 s.s1 s.s2 s.s3=x:=⟨_,rfl⟩
   have c:Hid (qc0 S s key=(n,z)):=by show _=_;unfold qc0;rw[ho,hw,o];rfl
   rw[hw,show qdo s.ws key=⟨0,⟨#[]⟩,false⟩ by unfold qdo;rw[hw];rfl]at a
   have E:Hid (∀w',Below w.heap.size w w'->Calls Tryz.prog 73 #[.pointer (some ⟨l,0,none⟩),int i64 key,.agg #[int i64 s.s0,int i64 s.s1,int i64 s.s2,int i64 s.s3]] w' λe H=>e=.returned (.tuple #[.agg #[int i64 q,int i64 r,int i64 u,int i64 v,.string n,.bool y],int i64 z])/\Below w'.heap.size w' H):=λw' hb=>by
     have:=qxh key s.s0 s.s1 s.s2 s.s3 w' (p.out.1.later hb) p.out.2;rw[o]at this;exact this
   clear h g i ho hw o;rw[c.out];go_enter Tryz.func34,Tryz.ntmps34
   go_wp2_with fail
   refine a.mono ?_;rintro e B ⟨rfl,k⟩;rw[show wrV ⟨0,⟨#[]⟩,false⟩=.agg #[int i64 0,.string ⟨#[]⟩,.bool false]from rfl,show (none:Option Wr).isSome=false from rfl];have d:=boxed k (.cells #[int i64 0,.string ⟨#[]⟩,.bool false] 34);have m:=D.out.box.later d;have I:=m.cell 4 _ rfl;have J:=m.cell 5 _ rfl;have K:=m.cell 6 _ rfl;have L:=m.cell 7 _ rfl;have C:=E.out _ d;clear a j
   go_wp2_with fail
   refine C.mono ?_;rintro e O ⟨rfl,M⟩;have N:=boxed (qac d M) (.cells #[int i64 q,int i64 r,int i64 u,int i64 v,.string n,.bool y] 130);clear I J K L C
   go_wp2_with fail
   go_ret2;exact⟨rfl,N⟩
  |some x=>
   obtain⟨xk,xd,xg⟩:=x;rw[hw,show qdo s.ws key=⟨xk,xd,xg⟩ by unfold qdo;rw[hw];rfl]at a;cases xg
   ·have c:Hid (qc0 S s key=(xd,0)):=by show _=_;unfold qc0;rw[ho,hw];rfl
    clear h g i ho hw;rw[c.out];go_enter Tryz.func34,Tryz.ntmps34
    go_wp2_with fail
    refine a.mono ?_;rintro e B ⟨rfl,k⟩;rw[show wrV ⟨xk,xd,false⟩=.agg #[int i64 xk,.string xd,.bool false]from rfl,show (some (⟨xk,xd,false⟩:Wr)).isSome=true from rfl];have d:=boxed k (.cells #[int i64 xk,.string xd,.bool false] 34);clear a j
    go_wp2_with fail
    go_ret2;exact⟨rfl,d⟩
   ·have c:Hid (qc0 S s key=(⟨#[]⟩,8)):=by show _=_;unfold qc0;rw[ho,hw];rfl
    clear h g i ho hw;rw[c.out];go_enter Tryz.func34,Tryz.ntmps34
    go_wp2_with fail
    refine a.mono ?_;rintro e B ⟨rfl,k⟩;rw[show wrV ⟨xk,xd,true⟩=.agg #[int i64 xk,.string xd,.bool true]from rfl,show (some (⟨xk,xd,true⟩:Wr)).isSome=true from rfl];have d:=boxed k (.cells #[int i64 xk,.string xd,.bool true] 34);clear a j
    go_wp2_with fail
    go_ret2;exact⟨rfl,d⟩
end Go.Proofs.YtemiamjnhoeniaaGreatDoor
