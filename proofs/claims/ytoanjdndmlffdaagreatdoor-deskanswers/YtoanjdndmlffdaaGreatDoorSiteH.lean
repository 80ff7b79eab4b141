import Derived.Test.YtoanjdndmlffdaaGreatDoorRTakeC0
import Derived.Test.YtoanjdndmlffdaaGreatDoorRTakeB
import Derived.Lib.SpaceUEq
import Derived.RegionDies
import Derived.Sort.KeysCollected
set_option maxHeartbeats 16000000
set_option maxRecDepth 1000000
namespace Go.Proofs.YtoanjdndmlffdaaGreatDoor
section
open Go.Value Go.IntKind Go.RowKit
noncomputable def jdm:Code:=((Tryz.f84.body.bind (qg7 16)).getD .skip)
theorem qqi {b:Nat} {G:Nat->Prop} {F:Nat->Option Obj} {S:qaf} {y1 y2 y3 y4 y5 y6 y7 y8 y9 y10 y11 y12 y13 y14 y15 y16 y17 y18 y19 y20 y21 y22 y23 y24 y25 y26 y27 y28 y29 y30 y31 y32 y33 y34 y35 y36 y37 y38 y39 y40 y41 y42 y43 y44 y45 y46 y47 y48 y49 y50 y51 y52 y53 y54 y55 y56 y57 y58 y59 y60 y61 y62 y63 y64 y65 y66 y67 y68 y69 y70 y71 y72 y73 y74 y75 y76 y77 y78 y79 y80 y81 y82 y83 y84 y85 y86 y87 y88 y89 y90 y91 y92 y93 y94 y95 y96 y97 y98 y99 y100 y101 y102 y103 y104 y105 y106 y107 y108 y109 y110 y111 y112 y113 y114 y115 y116 y117 y118 y119 y120 y121 y122 y123 y124 y125 y126 y127 y128 y129 y130 y131 y132 y133 y134 y135 y136 y137 y138 y139 y140 y141 y142 y143 y144 y145 y146 y147 y148 y149 y150 y151 y152 y153 y154 y155 y156 y157 y158 y159 y160 y161 y162 y163 y164 y165 y166 y167 y168 y169 y170 y171 y172 y173 y174 y175 y176 y177 y178 y179 y180 y181 y182 y183 y184 y185 y186 y187 y188 y189 y190 y191 y192 y193 y194 y195 y196:Value} (w:World) (M0:qu9 w b G F S S w) (R:Act->World->Prop)
 (hR:∀(u8 u9 u10 u11 u111 u112 u113 u114 u115 u116 u117 u118 u119 u120 u121 u122 u123 u124 u125 u126 u127 u128 u129 u130 u131 u132 u133 u134 u135 u136 u137 u138 u139 u140 u141 u142 u143 u144 u145 u146 u147 u148 u149 u150 u151 u152 u153 u154 u155 u156 u157 u158 u159 u160 u161 u162 u163 u164 u165 u166 u167 u168 u169 u170 u171 u172 u173 u174 u175 u176 u177 u178 u179 u180 u181 u182 u183 u184 u185 u186 u187 u188 u189 u190 u191 u192 u193 u194 u195 u196:Value) (S':qaf) (w':World),Goes S S'->RPo w b G F S' w'->R ⟨List.toArray ((.pointer (some ⟨b,0,none⟩))::y1::y2::y3::y4::y5::y6::y7::u8::u9::u10::u11::y12::y13::y14::y15::y16::y17::y18::y19::y20::y21::y22::y23::y24::y25::y26::y27::y28::y29::y30::y31::y32::y33::y34::y35::y36::y37::y38::y39::y40::y41::y42::y43::y44::y45::y46::y47::y48::y49::y50::y51::y52::y53::y54::y55::y56::y57::y58::y59::y60::y61::y62::y63::y64::y65::y66::y67::y68::y69::y70::y71::y72::y73::y74::y75::y76::y77::y78::y79::y80::y81::y82::y83::y84::y85::y86::y87::y88::y89::y90::y91::y92::y93::y94::y95::y96::y97::y98::y99::y100::y101::y102::y103::y104::y105::y106::y107::y108::y109::y110::u111::u112::u113::u114::u115::u116::u117::u118::u119::u120::u121::u122::u123::u124::u125::u126::u127::u128::u129::u130::u131::u132::u133::u134::u135::u136::u137::u138::u139::u140::u141::u142::u143::u144::u145::u146::u147::u148::u149::u150::u151::u152::u153::u154::u155::u156::u157::u158::u159::u160::u161::u162::u163::u164::u165::u166::u167::u168::u169::u170::u171::u172::u173::u174::u175::u176::u177::u178::u179::u180::u181::u182::u183::u184::u185::u186::u187::u188::u189::u190::u191::u192::u193::u194::u195::u196::[]),[]⟩ w'):
 Code.wp Tryz.prog jdm (λe a w=>e=.exit 2/\R a w) ⟨List.toArray ((.pointer (some ⟨b,0,none⟩))::y1::y2::y3::y4::y5::y6::y7::y8::y9::y10::y11::y12::y13::y14::y15::y16::y17::y18::y19::y20::y21::y22::y23::y24::y25::y26::y27::y28::y29::y30::y31::y32::y33::y34::y35::y36::y37::y38::y39::y40::y41::y42::y43::y44::y45::y46::y47::y48::y49::y50::y51::y52::y53::y54::y55::y56::y57::y58::y59::y60::y61::y62::y63::y64::y65::y66::y67::y68::y69::y70::y71::y72::y73::y74::y75::y76::y77::y78::y79::y80::y81::y82::y83::y84::y85::y86::y87::y88::y89::y90::y91::y92::y93::y94::y95::y96::y97::y98::y99::y100::y101::y102::y103::y104::y105::y106::y107::y108::y109::y110::y111::y112::y113::y114::y115::y116::y117::y118::y119::y120::y121::y122::y123::y124::y125::y126::y127::y128::y129::y130::y131::y132::y133::y134::y135::y136::y137::y138::y139::y140::y141::y142::y143::y144::y145::y146::y147::y148::y149::y150::y151::y152::y153::y154::y155::y156::y157::y158::y159::y160::y161::y162::y163::y164::y165::y166::y167::y168::y169::y170::y171::y172::y173::y174::y175::y176::y177::y178::y179::y180::y181::y182::y183::y184::y185::y186::y187::y188::y189::y190::y191::y192::y193::y194::y195::y196::[]),[]⟩ w:=by
 have HR:Hid _:=hR;clear hR
 conv=>arg 2;whnf
 go_loopw [8] (λ_ wr=>∃(c:qaf),Hid (qu9 w b G F S c wr)) (λ_ wr=>qk6 wr b)
 case atStart=>exact⟨S,M0⟩
 case round=>
  clear M0;obtain⟨c,y⟩:=hrel;obtain⟨G',PG,hGG⟩:=y.out.mem;have LE:Hid (qk6 wr b=200-c.log.length):=PG.left;obtain⟨lv,wv,sv,log,waits,D,V,W,hG,hF⟩:=PG;have HFR:Hid (qeh wr F log):=hF;obtain⟨M,lc,rfl,X⟩:=qbl D.rlog;obtain⟨E,B,rfl,N⟩:=qbl D.rwait;have v:Hid (qco wr b (.slice M log.length lc) (.slice E waits.length B) sv c log waits/\log.map (·.t)=c.log/\waits.map (·.t)=c.waits/\(∀k,G' k↔(qas b (.slice M log.length lc) (.slice E waits.length B) sv k\/∃m∈log++waits,m.blk k))/\∀k,G' k->G k\/w.heap.size<=k):=⟨D,V,W,hG,hGG⟩;have HVT:Hid (qew wr E B waits):=N
  have hll:log.length=c.log.length:=by rw[<-V];simp
  have hww:waits.length<=1000:=by have:=y.out.wn;rw[<-W]at this;simpa using this
  have HWW:Hid (waits.length<=1000):=hww;have s7:=D.box.cell 7 _ rfl;have s8:=D.box.cell 8 _ rfl;have hvl:=N.len;have hvc:=N.cap;have hl1:=X.len;have hl2:=X.cap;clear D V W hG hF hGG N X;by_cases hf:200<=log.length
  ·have O:Hid (200<=c.log.length):=by show _<=_;omega
   have h2:¬(log.length:Int)<200:=by omega
   clear hf hll
   go_wp2_with fail
   exact HR.out _ _ _ _ _ _ _ _ _ _ _ _ _ _ _ _ _ _ _ _ _ _ _ _ _ _ _ _ _ _ _ _ _ _ _ _ _ _ _ _ _ _ _ _ _ _ _ _ _ _ _ _ _ _ _ _ _ _ _ _ _ _ _ _ _ _ _ _ _ _ _ _ _ _ _ _ _ _ _ _ _ _ _ _ _ _ _ _ _ _ c wr (y.out.go c (.full O.out)) y.out.done
  ·have O:Hid (c.log.length<200):=by show _<_;omega
   have h2:(log.length:Int)<200:=by omega
   clear hf hll
   go_wp2_with fail
   refine q30 (qza wr v.out.1 v.out.2.2.1 y.out.inv HWW.out _ ?_);intro u9 u10 u122 u123 u124 u125 u126 u127 u128 u129 u130 u131 u132 u133 u134 u135 u136 u137 u138 u139 u140 u141 u142 u143 u144 u145 u146 u147 u148 u149 u150 u151 u152 u153 u154 u155 u156 u157 u158 u159 u160 u161 u162 u163 u164 u165 z w2 Y J;have HM2:Hid (qu9 w b G F S c w2):=y.out.later J;have P:Hid (qco w2 b (.slice M log.length lc) (.slice E waits.length B) sv c log waits):=v.out.1.later J;have HF2:Hid (qeh w2 F log):=HFR.out.later v.out.1 J;have HV2:Hid (qew w2 E B waits):=HVT.out.later J;rcases q8u Y v.out.2.2.1 (λx C=>(qei (y.out.inv.wt x C).1).1)with ⟨rfl,C⟩|⟨i,⟨⟨xs,d,f,g,h,j,l,n,o⟩,p,q⟩,hzi,hi,C⟩
   ·have Q:Hid (qht c=none):=C;clear C Y s7 s8 J
    go_wp2_with fail
    exact⟨trivial,HR.out _ _ _ _ _ _ _ _ _ _ _ _ _ _ _ _ _ _ _ _ _ _ _ _ _ _ _ _ _ _ _ _ _ _ _ _ _ _ _ _ _ _ _ _ _ _ _ _ _ _ _ _ _ _ _ _ _ _ _ _ _ _ _ _ _ _ _ _ _ _ _ _ _ _ _ _ _ _ _ _ _ _ _ _ _ _ _ _ _ _ c w2 (y.out.go c (.none Q.out)) HM2.out.done⟩
   ·have Q:Hid (qht c=some ⟨xs,d,f,g,h,j,l,n,o⟩/\waits[i]?=some ⟨⟨xs,d,f,g,h,j,l,n,o⟩,p,q⟩):=⟨C,hi⟩;have Z:i<waits.length:=(List.getElem?_eq_some_iff.1 hi).1;have HZI:Hid (z=i/\i<waits.length):=⟨hzi,Z⟩
    have z0:0<=z:=by omega
    have z1:z.toNat=i:=by omega
    have z2:z<(waits.length:Int):=by omega
    have z3:¬z<0:=by omega
    obtain⟨H,I,hwa,hcc⟩:∃H I,E=some ⟨H,I,none⟩/\∀i m r u,waits[i]?=some m->(txC m)[r]?=some u->w2.cell? ⟨H,I+(i*9+r),none⟩=some u:=by
     rcases HV2.out.held with e|e
     ·rw[e]at Z;simp at Z
     ·exact e
    subst hwa;have s:=λr u (hu:(txC ⟨⟨xs,d,f,g,h,j,l,n,o⟩,p,q⟩)[r]?=some u)=>(show w2.cell? ⟨H,I+i*9+r,none⟩=some u by rw[Nat.add_assoc];exact hcc i _ r u hi hu);have x0:=s 0 _ rfl;have x1:=s 1 _ rfl;have x2:=s 2 _ rfl;have x3:=s 3 _ rfl;have x4:=s 4 _ rfl;have x5:=s 5 _ rfl;have x6:=s 6 _ rfl;have x7:=s 7 _ rfl;have x8:=s 8 _ rfl;rw[Nat.add_zero]at x0;have s28:=P.out.box.cell 8 _ rfl;clear s hcc hi C Y s7 s8 hzi
    go_wp2_with fail
    have K:=boxed (Below.refl w2.heap.size w2) (.cells #[int i64 xs,int i64 d,int i64 f,int i64 g,int i64 h,int i64 j,int i64 l,int i64 n,.slice p o.length q] 102);have L:Hid (qco (w2.alloc (.cells #[int i64 xs,int i64 d,int i64 f,int i64 g,int i64 h,int i64 j,int i64 l,int i64 n,.slice p o.length q] 102)) b (.slice M log.length lc) (.slice (some ⟨H,I,none⟩) waits.length B) sv c log waits):=P.out.later K;have U:=qag.new (w:=w2) (T:=102) [int i64 xs,int i64 d,int i64 f,int i64 g,int i64 h,int i64 j,int i64 l,int i64 n,.slice p o.length q] rfl;change qag (w2.alloc (.cells #[int i64 xs,int i64 d,int i64 f,int i64 g,int i64 h,int i64 j,int i64 l,int i64 n,.slice p o.length q] 102)) w2.heap.size [int i64 xs,int i64 d,int i64 f,int i64 g,int i64 h,int i64 j,int i64 l,int i64 n,.slice p o.length q]at U;have HM3:Hid (qu9 w b G F S c (w2.alloc (.cells #[int i64 xs,int i64 d,int i64 f,int i64 g,int i64 h,int i64 j,int i64 l,int i64 n,.slice p o.length q] 102))):=HM2.out.later K;have HF3:Hid (qeh (w2.alloc (.cells #[int i64 xs,int i64 d,int i64 f,int i64 g,int i64 h,int i64 j,int i64 l,int i64 n,.slice p o.length q] 102)) F log):=HF2.out.later P.out K;have HV3:Hid (qew (w2.alloc (.cells #[int i64 xs,int i64 d,int i64 f,int i64 g,int i64 h,int i64 j,int i64 l,int i64 n,.slice p o.length q] 102)) (some ⟨H,I,none⟩) B waits):=HV2.out.later K;obtain⟨W3,hW3⟩:∃W3,w2.alloc (.cells #[int i64 xs,int i64 d,int i64 f,int i64 g,int i64 h,int i64 j,int i64 l,int i64 n,.slice p o.length q] 102)=W3:=⟨_,rfl⟩
    have hnb:w2.heap.size≠b:=by have:=P.out.box.lt;omega
    rw[hW3]at K L U HM3 HF3 HV3 ⊢;clear hW3 x0 x1 x2 x3 x4 x5 x6 x7 x8 s28;refine qmv (qvk W3 HV3 HWW HZI (L.out.box.cell 8 _ rfl) (L.out.box.free 8 (by simp[qc5])) _ ?_);intro u175 u176 u177 u178 u179 u180 u181 u182 u183 u184 u185 u186 u187 u188 u189 u190 u191 u192 u193 w7 g2 c2 n2 hb7 hg1 hg2 hn2 own7
    obtain⟨P7,T7,F7⟩:=L.out.reset hb7 hg1 own7 hn2.symm (λm hm=>.inl (by
     rcases List.mem_append.1 hm with h1|h1
     ·exact List.mem_of_mem_take h1
     ·exact List.mem_of_mem_drop h1)) (qh0 c.waits ⟨xs,d,f,g,h,j,l,n,o⟩)
    have AP:=qtl HM3.out L.out HF3.out v.out.2.1 v.out.2.2.1 v.out.2.2.2.1 v.out.2.2.2.2 Q.out.2 O.out Q.out.1 T7 F7 P7;have RX7:qag (w7.setCell ⟨b,8,none⟩ (.slice (some ⟨g2,0,none⟩) n2 c2)) w2.heap.size [int i64 xs,int i64 d,int i64 f,int i64 g,int i64 h,int i64 j,int i64 l,int i64 n,.slice p o.length q]:=(U.later hb7).kept (Below.heap_setCell _ _ _ _ hnb) (by simp[World.setCell]);obtain⟨W8,hW8⟩:∃W8,w7.setCell ⟨b,8,none⟩ (.slice (some ⟨g2,0,none⟩) n2 c2)=W8:=⟨_,rfl⟩;rw[hW8]at AP RX7 ⊢;obtain⟨x0,x1,x2,x3,x4,x5,x6,x7,x8⟩:=RX7.c9;clear P7 T7 F7 U RX7 hb7 hg1 hg2 own7 hW8 hn2
    go_wp2_with fail
    refine AP.mono ?_;rintro e w9 ⟨rfl,hM9,_⟩;have HM9:Hid (qu9 w b G F S (qnp c ⟨xs,d,f,g,h,j,l,n,o⟩) w9):=hM9;clear x0 x1 x2 x3 x4 x5 x6 x7 x8 AP hM9
    go_wp2_with fail
    go_roundw
    case rel=>exact⟨_,HM9⟩
    case measure=>
     obtain⟨G5,p5,_⟩:=HM9.out.mem;rw[p5.left,LE.out];have:=O.out;simp[qnp,qcb];omega
end
section
open Go.Value Go.IntKind Go.RowKit
noncomputable def q93:Code:=((Tryz.f84.body.bind (qg8 12)).getD .skip)
theorem qk3 {b:Nat} {G:Nat->Prop} {F:Nat->Option Obj} {S:qaf} {r I a:Option Addr} {lc J cap:Nat} {sv:Value} {log waits:List TxM} {site seq wall count d0 d1 d2 d3:Int} {ws:List Wr} {nw:Bool} {y1 y2 y4 y5 y6 y8 y9 y10 y11 y12 y13 y14 y15 y16 y17 y18 y19 y20 y21 y22 y23 y24 y25 y26 y27 y28 y29 y30 y31 y32 y33 y34 y35 y36 y37 y38 y39 y40 y41 y42 y43 y44 y45 y46 y47 y48 y49 y50 y51 y52 y53 y54 y55 y56 y57 y58 y59 y60 y61 y62 y63 y64 y65 y66 y67 y68 y69 y70 y71 y72 y73 y74 y75 y76 y77 y78 y79 y80 y81 y82 y83 y84 y85 y86 y87 y88 y89 y90 y91 y92 y93 y94 y95 y96 y97 y98 y99 y100 y101 y102 y103 y104 y105 y106 y107 y108 y109 y110 y111 y112 y113 y114 y115 y116 y117 y118 y119 y120 y121 y122 y123 y124 y125 y126 y127 y128 y129 y130 y131 y132 y133 y134 y135 y136 y137 y138 y139 y140 y141 y142 y143 y144 y145 y146 y147 y148 y149 y150 y151 y152 y153 y154 y155 y156 y157 y158 y159 y160 y161 y162 y163 y164 y165 y166 y167 y168 y169 y170 y171 y172 y173 y174 y175 y176 y177 y178 y179 y180 y181 y182 y183 y184 y185 y186 y187 y188 y189 y190 y191 y192 y193 y194 y195 y196:Value} (w c:World) (hPM:qco c b (.slice r log.length lc) (.slice I waits.length J) sv S log waits)
 (hl:log.map (·.t)=S.log) (hw:waits.map (·.t)=S.waits) (hG:∀k,G k↔(qas b (.slice r log.length lc) (.slice I waits.length J) sv k\/∃m∈log++waits,m.blk k)) (hF:qeh c F log) (hGL:∀k,G k->k<w.heap.size) (hRB:qag c w.heap.size [int i64 site,int i64 seq,int i64 wall,int i64 count,int i64 d0,int i64 d1,int i64 d2,int i64 d3,.slice a ws.length cap]) (hW4:qaz c a cap ws) (sw:1<=ws.length/\ws.length<=5)
 (hn:waits.length<=900) (hI:qcx {S with waits:=S.waits++[⟨site,seq,wall,count,d0,d1,d2,d3,ws⟩]}) (K:Below w.heap.size w c) (hf:log.length<200) (h40:waits.length<40\/nw=true):
 Code.wp Tryz.prog q93 (λe a w'=>e=.ret/\a.defers=[]/\a.tmps[4]?=some (int i64 0)/\∃S',Goes {S with waits:=S.waits++[⟨site,seq,wall,count,d0,d1,d2,d3,ws⟩]} S'/\RPo w b G F S' w') ⟨List.toArray ((.pointer (some ⟨b,0,none⟩))::y1::y2::(.pointer (some ⟨w.heap.size,0,none⟩))::y4::y5::y6::(.bool nw)::y8::y9::y10::y11::y12::y13::y14::y15::y16::y17::y18::y19::y20::y21::y22::y23::y24::y25::y26::y27::y28::y29::y30::y31::y32::y33::y34::y35::y36::y37::y38::y39::y40::y41::y42::y43::y44::y45::y46::y47::y48::y49::y50::y51::y52::y53::y54::y55::y56::y57::y58::y59::y60::y61::y62::y63::y64::y65::y66::y67::y68::y69::y70::y71::y72::y73::y74::y75::y76::y77::y78::y79::y80::y81::y82::y83::y84::y85::y86::y87::y88::y89::y90::y91::y92::y93::y94::y95::y96::y97::y98::y99::y100::y101::y102::y103::y104::y105::y106::y107::y108::y109::y110::y111::y112::y113::y114::y115::y116::y117::y118::y119::y120::y121::y122::y123::y124::y125::y126::y127::y128::y129::y130::y131::y132::y133::y134::y135::y136::y137::y138::y139::y140::y141::y142::y143::y144::y145::y146::y147::y148::y149::y150::y151::y152::y153::y154::y155::y156::y157::y158::y159::y160::y161::y162::y163::y164::y165::y166::y167::y168::y169::y170::y171::y172::y173::y174::y175::y176::y177::y178::y179::y180::y181::y182::y183::y184::y185::y186::y187::y188::y189::y190::y191::y192::y193::y194::y195::y196::[]),[]⟩ c:=by
 have PM4:Hid (qco c b (.slice r log.length lc) (.slice I waits.length J) sv S log waits):=hPM;have i:Hid (log.map (·.t)=S.log/\waits.map (·.t)=S.waits/\∀k,G k↔(qas b (.slice r log.length lc) (.slice I waits.length J) sv k\/∃m∈log++waits,m.blk k)):=⟨hl,hw,hG⟩;have L:Hid (∀k,G k->k<w.heap.size):=hGL;have HF4:Hid (qeh c F log):=hF;have M:Hid (qag c w.heap.size [int i64 site,int i64 seq,int i64 wall,int i64 count,int i64 d0,int i64 d1,int i64 d2,int i64 d3,.slice a ws.length cap]):=hRB;have HW4:Hid (qaz c a cap ws):=hW4;have U:Hid (1<=ws.length/\ws.length<=5):=sw
 have HLN:Hid (waits.length<=1000):=by show _<=_;omega
 have HN9:Hid (waits.length<=900):=hn;have HI:Hid (qcx {S with waits:=S.waits++[⟨site,seq,wall,count,d0,d1,d2,d3,ws⟩]}):=hI;obtain⟨la',lc',el,hLT⟩:=qbl hPM.rlog;obtain⟨va',vc',ev,hVT⟩:=qbl hPM.rwait;injection el with el1 el2 el3;injection ev with ev1 ev2 ev3;subst el1 el3 ev1 ev3;have hvl:=hVT.len;have hvc:=hVT.cap;have hll:=hLT.len;have hlc:=hLT.cap;have s7:=hPM.box.cell 7 _ rfl;have s8:=hPM.box.cell 8 _ rfl
 have s:¬(200:Int)<=(log.length:Int):=by omega
 clear hPM hl hw hG hF hGL hRB hW4 sw hn hI hLT hVT el2 ev2 hf
 conv=>arg 2;whnf
 by_cases g4:waits.length<40
 ·have g40:¬(40:Int)<=(waits.length:Int):=by omega
  clear h40 g4
  obtain⟨C,D,haa,hcc⟩:∃C D,a=some ⟨C,D,none⟩/\qd4 c C D ws:=by
   rcases HW4.out.held with V|V
   ·exfalso
    have:=U.out;rw[V]at this;simp at this
   ·exact V
  have v:=M.out.cell 8 _ rfl;have f8:=M.out.free 8 (by simp);have HN4:Hid (∀j u,(qhp ws)[j]?=some u->(c.alloc (.cells #[] 100)).cell? ((⟨C,D,none⟩:Addr).add j)=some u):=qsa (hcc.later (boxed (Below.refl _ c) _));have own0:=qkc c 100 rfl c.heap.size (Nat.le_refl _);obtain⟨i0,hi,hz0,hz1,hz2⟩:=info_parts qpf;have lt8:=M.out.lt;clear hcc;rw[haa]at v
  go_wp2_with (at_builtin;refine wpList_append_lies _ rfl (.tmp 94) (.tmp 96) 88 rfl c.heap.size 100 i0 (.agg #[int i64 0,.string ⟨#[]⟩,.bool false]) 3 32 Tryz.underlying88 hi hz0 hz1 hz2 rfl (by decide) (.slice (some ⟨c.heap.size,0,none⟩) 0 0) 0 [] rfl own0 ⟨C,D,none⟩ ws.length cap (qhp ws) rfl (qep ws) HN4.out (qj0 ws) (by have:=U.out;omega) (by have:=U.out;simp only[maxLen];omega) (by have:=U.out;omega) (by simp) _ rfl ?_;intro g d q W E egE ltE;have N:=(M.out.boxed (.cells #[] 100)).grown E (λe=>by simp[Value.ownBlock]at e<;>omega);have f8E:=N.free 8 (by simp);have t8E:=N.cell 8 _ rfl)
  have Y:Hid (c.heap.size<=g/\g<q.heap.size):=⟨by rcases egE with h|h<;>simp[Value.ownBlock]at h<;>omega,ltE⟩;have hbE:Below w.heap.size w q:=(boxed K (.cells #[] 100)).grown E (by have:=K.size;simp;omega) (λj hj=>by have:=K.size;simp[Value.ownBlock]at hj;omega)
  have WGE:qaz q (some ⟨g,0,none⟩) d ws:=by
   rw[Nat.zero_add,List.nil_append]at W;obtain⟨a9,c9,e9,hW9⟩:=qdn W;injection e9 with H e2 e3;subst H e3;exact hW9
  have O:=hbE.setCell (p:=⟨w.heap.size,8,none⟩) (Nat.le_refl _) (.slice (some ⟨g,0,none⟩) ws.length d);have Z:qag (q.setCell ⟨w.heap.size,8,none⟩ (.slice (some ⟨g,0,none⟩) ws.length d)) w.heap.size [int i64 site,int i64 seq,int i64 wall,int i64 count,int i64 d0,int i64 d1,int i64 d2,int i64 d3,.slice (some ⟨g,0,none⟩) ws.length d]:=N.set 8 _ (by simp);have P:Hid (∀k,k≠w.heap.size->k<c.heap.size->(q.setCell ⟨w.heap.size,8,none⟩ (.slice (some ⟨g,0,none⟩) ws.length d)).heap[k]?=c.heap[k]?):=λk f hl=>(Below.heap_setCell _ _ _ _ f).trans ((E.block k (by simp;omega) (λe=>by simp[Value.ownBlock]at e;omega)).trans (Below.heap_alloc _ _ _ hl));have aa:qaz (q.setCell ⟨w.heap.size,8,none⟩ (.slice (some ⟨g,0,none⟩) ws.length d)) (some ⟨g,0,none⟩) d ws:=qaz.kept (m:=⟨⟨site,seq,wall,count,d0,d1,d2,d3,ws⟩,some ⟨g,0,none⟩,d⟩) (w:=q) WGE (λk e=>Below.heap_setCell _ _ _ _ (by obtain⟨_,o,e⟩:=e;injection e with e;injection e with e;have:=Y.out;simp only;omega));obtain⟨n,Q⟩:∃n,q.setCell ⟨w.heap.size,8,none⟩ (.slice (some ⟨g,0,none⟩) ws.length d)=n:=⟨_,rfl⟩;rw[Q]at O Z P aa ⊢
  have hs5:c.heap.size<=n.heap.size:=by rw[<-Q];have:=E.size;simp[World.setCell]at this ⊢;omega
  have y:Hid (qco n b (.slice r log.length lc) (.slice I waits.length J) sv S log waits):=PM4.out.keptB (λk f=>P.out k (by have:=L.out k ((i.out.2.2 k).2 f);omega) (by have:=L.out k ((i.out.2.2 k).2 f);have:=K.size;omega)) hs5;have FR5:Hid (qeh n F log):=HF4.out.to (λm hm k e=>have f:qas b (.slice r log.length lc) (.slice I waits.length J) sv k\/∃m∈log++waits,m.blk k:=.inr ⟨m,List.mem_append.2 (.inl hm),e⟩;P.out k (by have:=L.out k ((i.out.2.2 k).2 f);omega) (by have:=L.out k ((i.out.2.2 k).2 f);have:=K.size;omega)) (λ_ h=>h)
  have HV5:Hid (qew n I J waits):=by
   obtain⟨va',vc',ev,hv⟩:=qbl y.out.rwait;injection ev with H e2 e3;rw[H,e3];exact hv
  have R:Hid (qaz n (some ⟨g,0,none⟩) d ws/\w.heap.size<g/\g<n.heap.size):=⟨aa,by have:=Y.out;omega,by rw[<-Q];have:=Y.out;simp[World.setCell];omega⟩;clear Q W E egE ltE N f8E t8E own0 v f8 hbE WGE aa s7 s8 HN4 hs5 P hi hz0 hz1 hz2;refine qmv (qpa n HV5 HLN Z (y.out.box.cell 8 _ rfl) (y.out.box.free 8 (by simp[qc5])) _ ?_);intro u99 u100 u101 u102 u103 u104 u105 u106 u107 u108 u109 u110 w7 T c2 hb7 hg1 hg2 own7;rw[<-qie]at own7
  have HBK:Hid (∀k,TxM.blk ⟨⟨site,seq,wall,count,d0,d1,d2,d3,ws⟩,some ⟨g,0,none⟩,d⟩ k->k=g):=λk e=>by obtain⟨_,o,e⟩:=e;injection e with e;injection e with e;exact e.symm
  obtain⟨P7,T7,F7⟩:=y.out.reset hb7 hg1 own7 (by simp) (λm hm=>by
   rcases List.mem_append.1 hm with l|l
   ·exact .inl l
   ·rw[List.mem_singleton.1 l];refine .inr ⟨R.out.1,λk e hf=>?_⟩;have H:=HBK.out k e;have:=L.out k ((i.out.2.2 k).2 (.inl hf));have:=R.out
    omega) (S.waits++[⟨site,seq,wall,count,d0,d1,d2,d3,ws⟩])
  have fr8:=FR5.out.touch y.out T7 (λ_ h=>h);have v:=(qae.ofBelow (F:=G) O).more T7 (λk f=>.inl ((i.out.2.2 k).2 (.inl f)))
  have g8:∀k,(qas b (.slice r log.length lc) (.slice (some ⟨T,0,none⟩) (waits.length+1) c2) sv k\/∃m∈log++(waits++[⟨⟨site,seq,wall,count,d0,d1,d2,d3,ws⟩,some ⟨g,0,none⟩,d⟩]),m.blk k)->G k\/w.heap.size<=k:=λk f=>by
   rcases f with l|⟨x,hx,l⟩
   ·rcases F7 k l with s|s
    ·exact .inl ((i.out.2.2 k).2 (.inl s))
    ·exact .inr (by have:=O.size;omega)
   ·rcases List.mem_append.1 hx with s|s
    ·exact .inl ((i.out.2.2 k).2 (.inr ⟨x,List.mem_append.2 (.inl s),l⟩))
    ·rcases List.mem_append.1 s with h3|h3
     ·exact .inl ((i.out.2.2 k).2 (.inr ⟨x,List.mem_append.2 (.inr h3),l⟩))
     ·rw[List.mem_singleton.1 h3]at l;have H:=HBK.out k l;have:=R.out;exact .inr (by omega)
  obtain⟨z,hW8⟩:∃z,w7.setCell ⟨b,8,none⟩ (.slice (some ⟨T,0,none⟩) (waits.length+1) c2)=z:=⟨_,rfl⟩;rw[hW8]at P7 v fr8 ⊢
  have M0:qu9 z b (λk=>qas b (.slice r log.length lc) (.slice (some ⟨T,0,none⟩) (waits.length+1) c2) sv k\/∃m∈log++(waits++[⟨⟨site,seq,wall,count,d0,d1,d2,d3,ws⟩,some ⟨g,0,none⟩,d⟩]),m.blk k) F {S with waits:=S.waits++[⟨site,seq,wall,count,d0,d1,d2,d3,ws⟩]} {S with waits:=S.waits++[⟨site,seq,wall,count,d0,d1,d2,d3,ws⟩]} z:=
   ⟨⟨_,⟨_,_,_,log,waits++[⟨⟨site,seq,wall,count,d0,d1,d2,d3,ws⟩,some ⟨g,0,none⟩,d⟩],P7,i.out.1,by rw[List.map_append,i.out.2.1];rfl,λk=>Iff.rfl,fr8⟩,λk f=>.inl f⟩,⟨rfl,rfl,rfl,Nat.le_refl _,λ_ _ _=>rfl⟩,HI.out,by show (S.waits++[_]).length<=1000;rw[<-i.out.2.1];have:=HN9.out;simp;omega,λX hX=>hX⟩
  have HFI:Hid (∀S' B,RPo z b (λk=>qas b (.slice r log.length lc) (.slice (some ⟨T,0,none⟩) (waits.length+1) c2) sv k\/∃m∈log++(waits++[⟨⟨site,seq,wall,count,d0,d1,d2,d3,ws⟩,some ⟨g,0,none⟩,d⟩]),m.blk k) F S' B->RPo w b G F S' B):=λS' B hp=>RPo.trans g8 v hp;clear hW8 P7 T7 F7 fr8 FR5 v g8 hb7 hg1 hg2 own7 O Z y HV5 R HBK PM4 M
  go_wp2_with fail
  refine q30 (qqi z M0 _ ?_);intro u8 u9 u10 u11 u111 u112 u113 u114 u115 u116 u117 u118 u119 u120 u121 u122 u123 u124 u125 u126 u127 u128 u129 u130 u131 u132 u133 u134 u135 u136 u137 u138 u139 u140 u141 u142 u143 u144 u145 u146 u147 u148 u149 u150 u151 u152 u153 u154 u155 u156 u157 u158 u159 u160 u161 u162 u163 u164 u165 u166 u167 u168 u169 u170 u171 u172 u173 u174 u175 u176 u177 u178 u179 u180 u181 u182 u183 u184 u185 u186 u187 u188 u189 u190 u191 u192 u193 u194 u195 u196 S' B hGo hPo;have FIN:Hid (∃S',Goes {S with waits:=S.waits++[⟨site,seq,wall,count,d0,d1,d2,d3,ws⟩]} S'/\RPo w b G F S' B):=⟨S',hGo,HFI.out S' B hPo⟩;clear hGo hPo M0 HFI
  go_wp2_with fail
  exact FIN.out
 ·have g40:(40:Int)<=(waits.length:Int):=by omega
  have hnw:nw=true:=h40.resolve_left g4;subst hnw;clear h40 g4
  obtain⟨C,D,haa,hcc⟩:∃C D,a=some ⟨C,D,none⟩/\qd4 c C D ws:=by
   rcases HW4.out.held with V|V
   ·exfalso
    have:=U.out;rw[V]at this;simp at this
   ·exact V
  have v:=M.out.cell 8 _ rfl;have f8:=M.out.free 8 (by simp);have HN4:Hid (∀j u,(qhp ws)[j]?=some u->(c.alloc (.cells #[] 100)).cell? ((⟨C,D,none⟩:Addr).add j)=some u):=qsa (hcc.later (boxed (Below.refl _ c) _));have own0:=qkc c 100 rfl c.heap.size (Nat.le_refl _);obtain⟨i0,hi,hz0,hz1,hz2⟩:=info_parts qpf;have lt8:=M.out.lt;clear hcc;rw[haa]at v
  go_wp2_with (at_builtin;refine wpList_append_lies _ rfl (.tmp 94) (.tmp 96) 88 rfl c.heap.size 100 i0 (.agg #[int i64 0,.string ⟨#[]⟩,.bool false]) 3 32 Tryz.underlying88 hi hz0 hz1 hz2 rfl (by decide) (.slice (some ⟨c.heap.size,0,none⟩) 0 0) 0 [] rfl own0 ⟨C,D,none⟩ ws.length cap (qhp ws) rfl (qep ws) HN4.out (qj0 ws) (by have:=U.out;omega) (by have:=U.out;simp only[maxLen];omega) (by have:=U.out;omega) (by simp) _ rfl ?_;intro g d q W E egE ltE;have N:=(M.out.boxed (.cells #[] 100)).grown E (λe=>by simp[Value.ownBlock]at e<;>omega);have f8E:=N.free 8 (by simp);have t8E:=N.cell 8 _ rfl)
  have Y:Hid (c.heap.size<=g/\g<q.heap.size):=⟨by rcases egE with h|h<;>simp[Value.ownBlock]at h<;>omega,ltE⟩;have hbE:Below w.heap.size w q:=(boxed K (.cells #[] 100)).grown E (by have:=K.size;simp;omega) (λj hj=>by have:=K.size;simp[Value.ownBlock]at hj;omega)
  have WGE:qaz q (some ⟨g,0,none⟩) d ws:=by
   rw[Nat.zero_add,List.nil_append]at W;obtain⟨a9,c9,e9,hW9⟩:=qdn W;injection e9 with H e2 e3;subst H e3;exact hW9
  have O:=hbE.setCell (p:=⟨w.heap.size,8,none⟩) (Nat.le_refl _) (.slice (some ⟨g,0,none⟩) ws.length d);have Z:qag (q.setCell ⟨w.heap.size,8,none⟩ (.slice (some ⟨g,0,none⟩) ws.length d)) w.heap.size [int i64 site,int i64 seq,int i64 wall,int i64 count,int i64 d0,int i64 d1,int i64 d2,int i64 d3,.slice (some ⟨g,0,none⟩) ws.length d]:=N.set 8 _ (by simp);have P:Hid (∀k,k≠w.heap.size->k<c.heap.size->(q.setCell ⟨w.heap.size,8,none⟩ (.slice (some ⟨g,0,none⟩) ws.length d)).heap[k]?=c.heap[k]?):=λk f hl=>(Below.heap_setCell _ _ _ _ f).trans ((E.block k (by simp;omega) (λe=>by simp[Value.ownBlock]at e;omega)).trans (Below.heap_alloc _ _ _ hl));have aa:qaz (q.setCell ⟨w.heap.size,8,none⟩ (.slice (some ⟨g,0,none⟩) ws.length d)) (some ⟨g,0,none⟩) d ws:=qaz.kept (m:=⟨⟨site,seq,wall,count,d0,d1,d2,d3,ws⟩,some ⟨g,0,none⟩,d⟩) (w:=q) WGE (λk e=>Below.heap_setCell _ _ _ _ (by obtain⟨_,o,e⟩:=e;injection e with e;injection e with e;have:=Y.out;simp only;omega));obtain⟨n,Q⟩:∃n,q.setCell ⟨w.heap.size,8,none⟩ (.slice (some ⟨g,0,none⟩) ws.length d)=n:=⟨_,rfl⟩;rw[Q]at O Z P aa ⊢
  have hs5:c.heap.size<=n.heap.size:=by rw[<-Q];have:=E.size;simp[World.setCell]at this ⊢;omega
  have y:Hid (qco n b (.slice r log.length lc) (.slice I waits.length J) sv S log waits):=PM4.out.keptB (λk f=>P.out k (by have:=L.out k ((i.out.2.2 k).2 f);omega) (by have:=L.out k ((i.out.2.2 k).2 f);have:=K.size;omega)) hs5;have FR5:Hid (qeh n F log):=HF4.out.to (λm hm k e=>have f:qas b (.slice r log.length lc) (.slice I waits.length J) sv k\/∃m∈log++waits,m.blk k:=.inr ⟨m,List.mem_append.2 (.inl hm),e⟩;P.out k (by have:=L.out k ((i.out.2.2 k).2 f);omega) (by have:=L.out k ((i.out.2.2 k).2 f);have:=K.size;omega)) (λ_ h=>h)
  have HV5:Hid (qew n I J waits):=by
   obtain⟨va',vc',ev,hv⟩:=qbl y.out.rwait;injection ev with H e2 e3;rw[H,e3];exact hv
  have R:Hid (qaz n (some ⟨g,0,none⟩) d ws/\w.heap.size<g/\g<n.heap.size):=⟨aa,by have:=Y.out;omega,by rw[<-Q];have:=Y.out;simp[World.setCell];omega⟩;clear Q W E egE ltE N f8E t8E own0 v f8 hbE WGE aa s7 s8 HN4 hs5 P hi hz0 hz1 hz2;refine qmv (qpa n HV5 HLN Z (y.out.box.cell 8 _ rfl) (y.out.box.free 8 (by simp[qc5])) _ ?_);intro u99 u100 u101 u102 u103 u104 u105 u106 u107 u108 u109 u110 w7 T c2 hb7 hg1 hg2 own7;rw[<-qie]at own7
  have HBK:Hid (∀k,TxM.blk ⟨⟨site,seq,wall,count,d0,d1,d2,d3,ws⟩,some ⟨g,0,none⟩,d⟩ k->k=g):=λk e=>by obtain⟨_,o,e⟩:=e;injection e with e;injection e with e;exact e.symm
  obtain⟨P7,T7,F7⟩:=y.out.reset hb7 hg1 own7 (by simp) (λm hm=>by
   rcases List.mem_append.1 hm with l|l
   ·exact .inl l
   ·rw[List.mem_singleton.1 l];refine .inr ⟨R.out.1,λk e hf=>?_⟩;have H:=HBK.out k e;have:=L.out k ((i.out.2.2 k).2 (.inl hf));have:=R.out
    omega) (S.waits++[⟨site,seq,wall,count,d0,d1,d2,d3,ws⟩])
  have fr8:=FR5.out.touch y.out T7 (λ_ h=>h);have v:=(qae.ofBelow (F:=G) O).more T7 (λk f=>.inl ((i.out.2.2 k).2 (.inl f)))
  have g8:∀k,(qas b (.slice r log.length lc) (.slice (some ⟨T,0,none⟩) (waits.length+1) c2) sv k\/∃m∈log++(waits++[⟨⟨site,seq,wall,count,d0,d1,d2,d3,ws⟩,some ⟨g,0,none⟩,d⟩]),m.blk k)->G k\/w.heap.size<=k:=λk f=>by
   rcases f with l|⟨x,hx,l⟩
   ·rcases F7 k l with s|s
    ·exact .inl ((i.out.2.2 k).2 (.inl s))
    ·exact .inr (by have:=O.size;omega)
   ·rcases List.mem_append.1 hx with s|s
    ·exact .inl ((i.out.2.2 k).2 (.inr ⟨x,List.mem_append.2 (.inl s),l⟩))
    ·rcases List.mem_append.1 s with h3|h3
     ·exact .inl ((i.out.2.2 k).2 (.inr ⟨x,List.mem_append.2 (.inr h3),l⟩))
     ·rw[List.mem_singleton.1 h3]at l;have H:=HBK.out k l;have:=R.out;exact .inr (by omega)
  obtain⟨z,hW8⟩:∃z,w7.setCell ⟨b,8,none⟩ (.slice (some ⟨T,0,none⟩) (waits.length+1) c2)=z:=⟨_,rfl⟩;rw[hW8]at P7 v fr8 ⊢
  have M0:qu9 z b (λk=>qas b (.slice r log.length lc) (.slice (some ⟨T,0,none⟩) (waits.length+1) c2) sv k\/∃m∈log++(waits++[⟨⟨site,seq,wall,count,d0,d1,d2,d3,ws⟩,some ⟨g,0,none⟩,d⟩]),m.blk k) F {S with waits:=S.waits++[⟨site,seq,wall,count,d0,d1,d2,d3,ws⟩]} {S with waits:=S.waits++[⟨site,seq,wall,count,d0,d1,d2,d3,ws⟩]} z:=
   ⟨⟨_,⟨_,_,_,log,waits++[⟨⟨site,seq,wall,count,d0,d1,d2,d3,ws⟩,some ⟨g,0,none⟩,d⟩],P7,i.out.1,by rw[List.map_append,i.out.2.1];rfl,λk=>Iff.rfl,fr8⟩,λk f=>.inl f⟩,⟨rfl,rfl,rfl,Nat.le_refl _,λ_ _ _=>rfl⟩,HI.out,by show (S.waits++[_]).length<=1000;rw[<-i.out.2.1];have:=HN9.out;simp;omega,λX hX=>hX⟩
  have HFI:Hid (∀S' B,RPo z b (λk=>qas b (.slice r log.length lc) (.slice (some ⟨T,0,none⟩) (waits.length+1) c2) sv k\/∃m∈log++(waits++[⟨⟨site,seq,wall,count,d0,d1,d2,d3,ws⟩,some ⟨g,0,none⟩,d⟩]),m.blk k) F S' B->RPo w b G F S' B):=λS' B hp=>RPo.trans g8 v hp;clear hW8 P7 T7 F7 fr8 FR5 v g8 hb7 hg1 hg2 own7 O Z y HV5 R HBK PM4 M
  go_wp2_with fail
  refine q30 (qqi z M0 _ ?_);intro u8 u9 u10 u11 u111 u112 u113 u114 u115 u116 u117 u118 u119 u120 u121 u122 u123 u124 u125 u126 u127 u128 u129 u130 u131 u132 u133 u134 u135 u136 u137 u138 u139 u140 u141 u142 u143 u144 u145 u146 u147 u148 u149 u150 u151 u152 u153 u154 u155 u156 u157 u158 u159 u160 u161 u162 u163 u164 u165 u166 u167 u168 u169 u170 u171 u172 u173 u174 u175 u176 u177 u178 u179 u180 u181 u182 u183 u184 u185 u186 u187 u188 u189 u190 u191 u192 u193 u194 u195 u196 S' B hGo hPo;have FIN:Hid (∃S',Goes {S with waits:=S.waits++[⟨site,seq,wall,count,d0,d1,d2,d3,ws⟩]} S'/\RPo w b G F S' B):=⟨S',hGo,HFI.out S' B hPo⟩;clear hGo hPo M0 HFI
  go_wp2_with fail
  exact FIN.out
end
section
open Go.Value Go.IntKind Go.RowKit
theorem qgs {tmps:Array Value} {v:Value} (w:World) (h:tmps[4]?=some v):(results Tryz.f84 tmps).run Tryz.prog w=.ok v w:=by
 simp[results,Tryz.results84,go_sem,h]
variable {b:Nat} {G:Nat->Prop} {F:Nat->Option Obj} {S:qaf}
theorem qwh (m:TxM) (w:World) (h:RS w b G F S) (hI:qcx S) (hn:S.waits.length<=900) (hW:qaz w m.wa m.wc m.t.ws) (hnz:qa8 S m.t=0):
 Calls Tryz.prog 84 #[.pointer (some ⟨b,0,none⟩),txV m] w λe w'=>e=.returned (int i64 (qa8 S m.t))/\∃S',qb8 S m.t S'/\RPo w b G F S' w':=by
 obtain⟨⟨site,seq,wall,count,d0,d1,d2,d3,ws⟩,a,cap⟩:=m;simp only at hW hnz ⊢;have n:Hid (qa8 S ⟨site,seq,wall,count,d0,d1,d2,d3,ws⟩=0):=hnz;clear hnz;have hb:=boxed (Below.refl _ w) (.cells #[int i64 site,int i64 seq,int i64 wall,int i64 count,int i64 d0,int i64 d1,int i64 d2,int i64 d3,.slice a ws.length cap] 102);have p:=qag.new (w:=w) (T:=102) [int i64 site,int i64 seq,int i64 wall,int i64 count,int i64 d0,int i64 d1,int i64 d2,int i64 d3,.slice a ws.length cap] rfl;change qag (w.alloc (.cells #[int i64 site,int i64 seq,int i64 wall,int i64 count,int i64 d0,int i64 d1,int i64 d2,int i64 d3,.slice a ws.length cap] 102)) w.heap.size [int i64 site,int i64 seq,int i64 wall,int i64 count,int i64 d0,int i64 d1,int i64 d2,int i64 d3,.slice a ws.length cap]at p;have hne:=Later.one;have P1:=h.later hb;have W1:=hW.later hb;have HGL:Hid (∀k,G k->k<w.heap.size):=h.lt;clear h hW;show Calls Tryz.prog 84 #[.pointer (some ⟨b,0,none⟩),.agg #[int i64 site,int i64 seq,int i64 wall,int i64 count,int i64 d0,int i64 d1,int i64 d2,int i64 d3,.slice a ws.length cap]] w _;obtain⟨lv,wv,sv,log,waits,Y,hl,hw,hG,hF⟩:=id P1;obtain⟨I,lc,rfl,hLT⟩:=qbl Y.rlog;obtain⟨B,J,rfl,hVT⟩:=qbl Y.rwait;have k0:=Later.cell (Y.box.cell 0 _ rfl);have t0:=Later.cell (p.cell 0 _ rfl);have M:=Later.cell (p.cell 1 _ rfl);have t2:=Later.cell (p.cell 2 _ rfl);have t3:=Later.cell (p.cell 3 _ rfl);have t4:=Later.cell (p.cell 4 _ rfl);have t5:=Later.cell (p.cell 5 _ rfl);have Z:=Later.cell (p.cell 6 _ rfl);have t7:=Later.cell (p.cell 7 _ rfl);have t8:=Later.cell (p.cell 8 _ rfl);cases hok:okT ⟨site,seq,wall,count,d0,d1,d2,d3,ws⟩
 ·have HK:Hid (qdf site seq wall count d0 d1 d2 d3 ws=false):=hok
  have E:qa8 S ⟨site,seq,wall,count,d0,d1,d2,d3,ws⟩=1:=by unfold qa8;rw[if_pos hok]
  exact absurd (n.out.symm.trans E) (by decide)
 ·have HK:Hid (qdf site seq wall count d0 d1 d2 d3 ws=true):=hok;obtain⟨⟨s0,s3⟩,⟨sq1,sq2⟩,sw⟩:=qei hok;simp only at s0 s3 sq1 sq2 sw;have HOK:Hid (okT ⟨site,seq,wall,count,d0,d1,d2,d3,ws⟩=true):=hok;clear hok;by_cases hid:site=S.id
  ·have E:qa8 S ⟨site,seq,wall,count,d0,d1,d2,d3,ws⟩=1:=by unfold qa8;rw[if_neg (by rw[HOK.out];decide),if_pos hid]
   exact absurd (n.out.symm.trans E) (by decide)
  ·have i1:(site==S.id)=false:=by simp[hid]
   have i2:decide (site=S.id)=false:=by simp[hid]
   have HID:Hid (¬site=S.id):=hid;have d:Hid (qco (w.alloc (.cells #[int i64 site,int i64 seq,int i64 wall,int i64 count,int i64 d0,int i64 d1,int i64 d2,int i64 d3,.slice a ws.length cap] 102)) b (.slice I log.length lc) (.slice B waits.length J) sv S log waits/\log.map (·.t)=S.log/\waits.map (·.t)=S.waits/\∀k,G k↔(qas b (.slice I log.length lc) (.slice B waits.length J) sv k\/∃m∈log++waits,m.blk k)):=⟨Y,hl,hw,hG⟩;have HI:Hid (qcx S):=hI;have HFR:Hid (qeh _ F log):=hF;have HVT:Hid (qew (w.alloc (.cells #[int i64 site,int i64 seq,int i64 wall,int i64 count,int i64 d0,int i64 d1,int i64 d2,int i64 d3,.slice a ws.length cap] 102)) B J waits/\qew (w.alloc (.cells #[int i64 site,int i64 seq,int i64 wall,int i64 count,int i64 d0,int i64 d1,int i64 d2,int i64 d3,.slice a ws.length cap] 102)) I lc log):=⟨hVT,hLT⟩;have hvl:=hVT.len;have hvc:=hVT.cap;have hll:=hLT.len;have hlc:=hLT.cap;clear Y hl hw hG hF P1 hI hid hVT hLT;go_enter Tryz.func84,Tryz.ntmps84
   go_wp2_with fail
   refine qaa (by kernel_rfl) (by kernel_rfl) ?_
   repeat (go_big_quiet_step (first|rfl|(go_at_call 128;with_reducible exact qac (qf3 (W1.later (Later.below _)) HK.out))))
   refine wpQuiet_nil ?_;rintro w2 ⟨⟨_,hb2⟩,rfl⟩;clear t0 M t2 t3 t4 t5 Z t7 t8 k0;have PM2:Hid (qco w2 b (.slice I log.length lc) (.slice B waits.length J) sv S log waits):=d.out.1.later hb2;have RB2:=p.later hb2;have hbw:=qab hb hb2;have HB2:Hid (Below (w.alloc (.cells #[int i64 site,int i64 seq,int i64 wall,int i64 count,int i64 d0,int i64 d1,int i64 d2,int i64 d3,.slice a ws.length cap] 102)).heap.size (w.alloc (.cells #[int i64 site,int i64 seq,int i64 wall,int i64 count,int i64 d0,int i64 d1,int i64 d2,int i64 d3,.slice a ws.length cap] 102)) w2):=hb2;clear p hb hb2;have t0:=Later.cell (RB2.cell 0 _ rfl);have M:=Later.cell (RB2.cell 1 _ rfl);have P:=Later.cell (qmy PM2.out.box s0 s3)
   have s4:site<4:=by omega
   obtain⟨D,hD⟩:∃D,qaq site S.a0 S.a1 S.a2 S.a3=D:=⟨_,rfl⟩;have U:Hid (qaq site S.a0 S.a1 S.a2 S.a3=D):=hD;rw[hD]at P;clear hD;by_cases hle:seq<=D
   ·have E:qa8 S ⟨site,seq,wall,count,d0,d1,d2,d3,ws⟩=9:=by unfold qa8;rw[if_neg (by rw[HOK.out];decide),if_neg HID.out,if_pos (by rw[U.out];exact hle)]
    exact absurd (n.out.symm.trans E) (by decide)
   ·have HLE:Hid (D<seq):=by show _<_;omega
    have q1:decide (seq<=D)=false:=decide_eq_false hle;clear hle
    go_wp2_with fail
    refine qaa (by kernel_rfl) (by kernel_rfl) ?_
    repeat (go_big_quiet_step (first|rfl|fail))
    refine wpQuiet_nil ?_;rintro w3 ⟨⟨_,hb3⟩,rfl⟩;have PM3:Hid (qco w3 b (.slice I log.length lc) (.slice B waits.length J) sv S log waits):=PM2.out.later hb3;have RB3:Hid (qag w3 w.heap.size [int i64 site,int i64 seq,int i64 wall,int i64 count,int i64 d0,int i64 d1,int i64 d2,int i64 d3,.slice a ws.length cap]):=RB2.later hb3;have hbw3:=qab hbw hb3;have HB3:Hid (Below (w.alloc (.cells #[int i64 site,int i64 seq,int i64 wall,int i64 count,int i64 d0,int i64 d1,int i64 d2,int i64 d3,.slice a ws.length cap] 102)).heap.size (w.alloc (.cells #[int i64 site,int i64 seq,int i64 wall,int i64 count,int i64 d0,int i64 d1,int i64 d2,int i64 d3,.slice a ws.length cap] 102)) w3):=qab HB2.out hb3;clear RB2 hbw hb3 t0 M P PM2 HB2;have s8:=PM3.out.box.cell 8 _ rfl
    go_wp2_with fail
    go_loopw [39] (λiv wr=>∃(k:Nat) (z:Int),k<=waits.length/\z=k/\iv=int i64 z/\Hid (∀j x,j<k->waits[j]?=some x->qcl x.t ⟨site,seq,wall,count,d0,d1,d2,d3,ws⟩=false)/\Below w3.heap.size w3 wr) (λi _=>waits.length-(intOf i).toNat)
    case atStart=>exact⟨0,0,by omega,rfl,rfl,(λj x hj=>by omega),Below.refl _ _⟩
    case round=>
     obtain⟨k,z,hk,hz,rfl,HNM,K⟩:=hrel;have HZ:Hid (z=k):=hz;by_cases hlt:k<waits.length
     ·have g1:z<(waits.length:Int):=by omega
      have V:z.toNat=k:=by omega
      have g3:0<=z:=by omega
      clear hz
      obtain⟨wb,off,hwa,hcc⟩:∃wb off,B=some ⟨wb,off,none⟩/\∀i m r u,waits[i]?=some m->(txC m)[r]?=some u->(w.alloc (.cells #[int i64 site,int i64 seq,int i64 wall,int i64 count,int i64 d0,int i64 d1,int i64 d2,int i64 d3,.slice a ws.length cap] 102)).cell? ⟨wb,off+(i*9+r),none⟩=some u:=by
          rcases HVT.out.1.held with e|e
          ·rw[e]at hlt;simp at hlt
          ·exact e
      obtain⟨⟨⟨xs,Q,xw,xc,y0,y1,y2,y3,yw⟩,ya,yc⟩,c⟩:∃m,waits[k]?=some m:=⟨waits[k],List.getElem?_eq_getElem hlt⟩;have HX:Hid (waits[k]?=some ⟨⟨xs,Q,xw,xc,y0,y1,y2,y3,yw⟩,ya,yc⟩):=c;have C:=λr u (hu:(txC ⟨⟨xs,Q,xw,xc,y0,y1,y2,y3,yw⟩,ya,yc⟩)[r]?=some u)=>(show wr.cell? ⟨wb,off+k*9+r,none⟩=some u by rw[Nat.add_assoc];exact cell_later (qab HB3.out K) (hcc k _ r u c hu));have x0:=C 0 _ rfl;have x1:=C 1 _ rfl;have x2:=C 2 _ rfl;have x3:=C 3 _ rfl;have x4:=C 4 _ rfl;have x5:=C 5 _ rfl;have x6:=C 6 _ rfl;have x7:=C 7 _ rfl;have x8:=C 8 _ rfl;rw[Nat.add_zero]at x0;have g:=RB3.out.later K;have t0:=g.cell 0 _ rfl;have M:=g.cell 1 _ rfl;have lt0:=g.lt;rw[hwa];clear C hcc c g;by_cases hs:xs=site
      ·by_cases q:Q=seq
       ·have N:(xs==site)=true:=by simp[hs]
        have R:(Q==seq)=true:=by simp[q]
        have E:qa8 S ⟨site,seq,wall,count,d0,d1,d2,d3,ws⟩=9:=by
              unfold qa8;rw[if_neg (by rw[HOK.out];decide),if_neg HID.out,if_neg (by rw[U.out];have:=HLE.out;simp only;omega),if_pos];rw[<-d.out.2.2.1];exact List.any_eq_true.2 ⟨_,List.mem_map.2 ⟨_,List.mem_of_getElem? HX.out,rfl⟩,qgm.2 ⟨hs,q⟩⟩
        exact absurd (n.out.symm.trans E) (by decide)
       ·have N:(xs==site)=true:=by simp[hs]
        have R:(Q==seq)=false:=by simp[q]
        have HNQ:Hid (qcl ⟨xs,Q,xw,xc,y0,y1,y2,y3,yw⟩ ⟨site,seq,wall,count,d0,d1,d2,d3,ws⟩=false):=by show _=_;simp[qcl,q]
        clear hs q hwa
        go_wp2_with fail
        go_roundw
        case rel=>exact⟨k+1,z+1,by omega,by have:=HZ.out;omega,by go_num,(λj x hj c=>by
              rcases Nat.lt_or_ge j k with h1|h1
              ·exact HNM.out j x h1 c
              ·have:j=k:=by omega
               subst this;rw[HX.out]at c;injection c with c;subst c
               exact HNQ.out),boxed K _⟩
        case measure=>simp[intOf];have:=HZ.out;omega
      ·have N:(xs==site)=false:=by simp[hs]
       have HNQ:Hid (qcl ⟨xs,Q,xw,xc,y0,y1,y2,y3,yw⟩ ⟨site,seq,wall,count,d0,d1,d2,d3,ws⟩=false):=by show _=_;simp[qcl,hs]
       clear hs hwa
       go_wp2_with fail
       go_roundw
       case rel=>exact⟨k+1,z+1,by omega,by have:=HZ.out;omega,by go_num,(λj x hj c=>by
           rcases Nat.lt_or_ge j k with h1|h1
           ·exact HNM.out j x h1 c
           ·have:j=k:=by omega
            subst this;rw[HX.out]at c;injection c with c;subst c
            exact HNQ.out),boxed K _⟩
       case measure=>simp[intOf];have:=HZ.out;omega
     ·have g1:¬z<(waits.length:Int):=by omega
      have HNA:Hid (∀x∈waits,qcl x.t ⟨site,seq,wall,count,d0,d1,d2,d3,ws⟩=false):=λx c=>by
          obtain⟨j,hj⟩:=List.getElem?_of_mem c;exact HNM.out j x (by have:=(List.getElem?_eq_some_iff.1 hj).1;omega) hj
      clear hz HNM;have s:Hid (qco wr b (.slice I log.length lc) (.slice B waits.length J) sv S log waits):=PM3.out.later K;have g:Hid (qag wr w.heap.size [int i64 site,int i64 seq,int i64 wall,int i64 count,int i64 d0,int i64 d1,int i64 d2,int i64 d3,.slice a ws.length cap]):=RB3.out.later K;have W:=qab hbw3 K;have X:Hid (Below (w.alloc (.cells #[int i64 site,int i64 seq,int i64 wall,int i64 count,int i64 d0,int i64 d1,int i64 d2,int i64 d3,.slice a ws.length cap] 102)).heap.size (w.alloc (.cells #[int i64 site,int i64 seq,int i64 wall,int i64 count,int i64 d0,int i64 d1,int i64 d2,int i64 d3,.slice a ws.length cap] 102)) wr):=qab HB3.out K;clear hbw3 K PM3 RB3 HB3 s8 hk;have t0:=Later.cell (g.out.cell 0 _ rfl);have M:=Later.cell (g.out.cell 1 _ rfl);have t4:=Later.cell (g.out.cell 4 _ rfl);have t5:=Later.cell (g.out.cell 5 _ rfl);have Z:=Later.cell (g.out.cell 6 _ rfl);have t7:=Later.cell (g.out.cell 7 _ rfl);have P:=Later.cell (qmy s.out.box s0 s3);have k1:=Later.cell (s.out.box.cell 1 _ rfl);have k2:=Later.cell (s.out.box.cell 2 _ rfl);have k3:=Later.cell (s.out.box.cell 3 _ rfl);have k4:=Later.cell (s.out.box.cell 4 _ rfl);rw[U.out]at P;have hdd:=HI.out.dep site;rw[U.out]at hdd;have hwr:=qfq hdd
      have hlw:waits.length=S.waits.length:=by rw[<-d.out.2.2.1];simp
      have hlg:log.length=S.log.length:=by rw[<-d.out.2.1];simp
      have H:Hid (waits.length=S.waits.length/\log.length=S.log.length/\S.waits.length<=900):=⟨hlw,hlg,hn⟩
      have HRE:Hid (qau S ⟨site,seq,wall,count,d0,d1,d2,d3,ws⟩=(decide (seq=D+1)&&qfu S.a0 S.a1 S.a2 S.a3 d0 d1 d2 d3)):=by show qau S ⟨site,seq,wall,count,d0,d1,d2,d3,ws⟩=_;unfold qau;rw[U.out]
      have HAN:Hid (S.waits.any (λx=>qcl x ⟨site,seq,wall,count,d0,d1,d2,d3,ws⟩)=false):=by
          show _=_;rw[<-d.out.2.2.1,List.any_eq_false];intro x c;obtain⟨y,hy,rfl⟩:=List.mem_map.1 c;rw[HNA.out y hy]
          decide
      have E0:Hid (qa8 S ⟨site,seq,wall,count,d0,d1,d2,d3,ws⟩=if 200<=log.length then 12 else if 40<=waits.length/\qau S ⟨site,seq,wall,count,d0,d1,d2,d3,ws⟩=false then 12 else 0):=by
          show qa8 S ⟨site,seq,wall,count,d0,d1,d2,d3,ws⟩=_;unfold qa8;rw[if_neg (by rw[HOK.out];decide),if_neg HID.out,if_neg (by rw[U.out];have:=HLE.out;simp only;omega),if_neg (by rw[HAN.out];decide),H.out.1,H.out.2.1]
      clear hn hdd hlw hlg;by_cases q:seq=D+1
      ·have q2:(seq==D+1)=true:=by simp[q]
       have HQ:Hid (seq=D+1):=q;clear q;cases hc:qfu S.a0 S.a1 S.a2 S.a3 d0 d1 d2 d3
       ·have HC:Hid (qfu S.a0 S.a1 S.a2 S.a3 d0 d1 d2 d3=false):=hc
        have HR:Hid (qau S ⟨site,seq,wall,count,d0,d1,d2,d3,ws⟩=false):=by show _=_;rw[HRE.out,hc];simp
        clear hc
        go_wp2_with fail
        refine qaa (by kernel_rfl) (by kernel_rfl) ?_
        repeat (go_big_quiet_step (first|rfl|(go_at_call 77;with_reducible exact qac (qbj HC.out _))))
        refine wpQuiet_nil ?_;rintro o ⟨⟨_,l⟩,rfl⟩;clear HQ HC q2;have PM4:Hid (qco o b (.slice I log.length lc) (.slice B waits.length J) sv S log waits):=s.out.later l;have RB4:Hid (qag o w.heap.size [int i64 site,int i64 seq,int i64 wall,int i64 count,int i64 d0,int i64 d1,int i64 d2,int i64 d3,.slice a ws.length cap]):=g.out.later l;have hbw4:=qab W l;have O:Hid (Below (w.alloc (.cells #[int i64 site,int i64 seq,int i64 wall,int i64 count,int i64 d0,int i64 d1,int i64 d2,int i64 d3,.slice a ws.length cap] 102)).heap.size (w.alloc (.cells #[int i64 site,int i64 seq,int i64 wall,int i64 count,int i64 d0,int i64 d1,int i64 d2,int i64 d3,.slice a ws.length cap] 102)) o):=qab X.out l;clear W l s g X t0 M t4 t5 Z t7 P k1 k2 k3 k4;obtain⟨N,R,e3,e4,e5⟩:=qf9 n.out
        have L:waits.length<40\/false=true:=by
              refine .inl (Nat.lt_of_not_le λL=>?_);have E:=n.out;rw[E0.out,if_neg (by have:=H.out;omega),if_pos ⟨L,HR.out⟩]at E;cases E
        go_step;go_step
        refine wp_mono (qk3 w o PM4.out d.out.2.1 d.out.2.2.1 d.out.2.2.2 (HFR.out.later d.out.1 O.out) HGL.out RB4.out (W1.later O.out) sw (by have:=H.out;omega) (HI.out.wait N R e4) hbw4 (by have:=H.out;omega) L) (λe a w' h=>?_);obtain⟨rfl,hd,ht,S',g1,V⟩:=h;exact bodyPost_ret (v:=int i64 0) (qgs w' ht) hd ⟨by rw[n.out],S',.inr ⟨n.out,g1⟩,V⟩
       ·have HC:Hid (qfu S.a0 S.a1 S.a2 S.a3 d0 d1 d2 d3=true):=hc
        have HR:Hid (qau S ⟨site,seq,wall,count,d0,d1,d2,d3,ws⟩=true):=by show _=_;rw[HRE.out,hc,HQ.out];simp
        clear hc
        go_wp2_with fail
        refine qaa (by kernel_rfl) (by kernel_rfl) ?_
        repeat (go_big_quiet_step (first|rfl|(go_at_call 77;with_reducible exact qac (qbj HC.out _))))
        refine wpQuiet_nil ?_;rintro o ⟨⟨_,l⟩,rfl⟩;clear HQ HC q2;have PM4:Hid (qco o b (.slice I log.length lc) (.slice B waits.length J) sv S log waits):=s.out.later l;have RB4:Hid (qag o w.heap.size [int i64 site,int i64 seq,int i64 wall,int i64 count,int i64 d0,int i64 d1,int i64 d2,int i64 d3,.slice a ws.length cap]):=g.out.later l;have hbw4:=qab W l;have O:Hid (Below (w.alloc (.cells #[int i64 site,int i64 seq,int i64 wall,int i64 count,int i64 d0,int i64 d1,int i64 d2,int i64 d3,.slice a ws.length cap] 102)).heap.size (w.alloc (.cells #[int i64 site,int i64 seq,int i64 wall,int i64 count,int i64 d0,int i64 d1,int i64 d2,int i64 d3,.slice a ws.length cap] 102)) o):=qab X.out l;clear W l s g X t0 M t4 t5 Z t7 P k1 k2 k3 k4;obtain⟨N,R,e3,e4,e5⟩:=qf9 n.out;have L:waits.length<40\/true=true:=.inr rfl
        go_step;go_step
        refine wp_mono (qk3 w o PM4.out d.out.2.1 d.out.2.2.1 d.out.2.2.2 (HFR.out.later d.out.1 O.out) HGL.out RB4.out (W1.later O.out) sw (by have:=H.out;omega) (HI.out.wait N R e4) hbw4 (by have:=H.out;omega) L) (λe a w' h=>?_);obtain⟨rfl,hd,ht,S',g1,V⟩:=h;exact bodyPost_ret (v:=int i64 0) (qgs w' ht) hd ⟨by rw[n.out],S',.inr ⟨n.out,g1⟩,V⟩
      ·have q2:(seq==D+1)=false:=by simp[q]
       have HR:Hid (qau S ⟨site,seq,wall,count,d0,d1,d2,d3,ws⟩=false):=by show _=_;rw[HRE.out];simp[q]
       clear q
       go_wp2_with fail
       refine qaa (by kernel_rfl) (by kernel_rfl) ?_
       repeat (go_big_quiet_step (first|rfl|fail))
       refine wpQuiet_nil ?_;rintro o ⟨⟨_,l⟩,rfl⟩;clear q2;have PM4:Hid (qco o b (.slice I log.length lc) (.slice B waits.length J) sv S log waits):=s.out.later l;have RB4:Hid (qag o w.heap.size [int i64 site,int i64 seq,int i64 wall,int i64 count,int i64 d0,int i64 d1,int i64 d2,int i64 d3,.slice a ws.length cap]):=g.out.later l;have hbw4:=qab W l;have O:Hid (Below (w.alloc (.cells #[int i64 site,int i64 seq,int i64 wall,int i64 count,int i64 d0,int i64 d1,int i64 d2,int i64 d3,.slice a ws.length cap] 102)).heap.size (w.alloc (.cells #[int i64 site,int i64 seq,int i64 wall,int i64 count,int i64 d0,int i64 d1,int i64 d2,int i64 d3,.slice a ws.length cap] 102)) o):=qab X.out l;clear W l s g X t0 M t4 t5 Z t7 P k1 k2 k3 k4;obtain⟨N,R,e3,e4,e5⟩:=qf9 n.out
       have L:waits.length<40\/false=true:=by
           refine .inl (Nat.lt_of_not_le λL=>?_);have E:=n.out;rw[E0.out,if_neg (by have:=H.out;omega),if_pos ⟨L,HR.out⟩]at E;cases E
       go_step;go_step
       refine wp_mono (qk3 w o PM4.out d.out.2.1 d.out.2.2.1 d.out.2.2.2 (HFR.out.later d.out.1 O.out) HGL.out RB4.out (W1.later O.out) sw (by have:=H.out;omega) (HI.out.wait N R e4) hbw4 (by have:=H.out;omega) L) (λe a w' h=>?_);obtain⟨rfl,hd,ht,S',g1,V⟩:=h;exact bodyPost_ret (v:=int i64 0) (qgs w' ht) hd ⟨by rw[n.out],S',.inr ⟨n.out,g1⟩,V⟩
theorem qva (m:TxM) (w:World) (h:RS w b G F S) (a:qcx S) (c:S.waits.length<=900) (d:qaz w m.wa m.wc m.t.ws):
 Calls Tryz.prog 84 #[.pointer (some ⟨b,0,none⟩),txV m] w λe w'=>e=.returned (int i64 (qa8 S m.t))/\∃S',qb8 S m.t S'/\RPo w b G F S' w':=by
 by_cases g:qa8 S m.t=0
 ·exact qwh m w h a c d g
 ·exact qzf m w h a c d g
end
section
open Go.Value Go.IntKind Go.RowKit
theorem qtf {α:Type} (f:Nat->α) (i:Nat):qcg f i (f i)=f:=by
 funext j
 unfold qcg;split
 ·rename_i e;rw[e]
 ·rfl
theorem qt9 (W:WoS) (i:Nat):setSite W i (W.S i)=W:=by
 unfold setSite;rw[qtf]
section
variable {w w':World} {b:Nat} {G:Nat->Prop} {F:Nat->Option Obj} {S:qaf} {M:RoM} {W:WoS} {Gs:Nat->Nat->Prop}
theorem RWo.stepSm (h:RWo w b M W Gs) {i:Nat} (hi:i<W.n) {S':qaf} {F':Nat->Option Obj} (d:∀k o,M.F i k=some o->F' k=some o) (l:RPo w (M.bp i) (Gs i) F' S' w'):∃a,RWo w' b {M with F:=qcg M.F i F'} (setSite W i S') a/\(∀j k,a j k->Gs j k\/w.heap.size<=k)/\qae (Gs i) w w':=by
 obtain⟨a,f,g,kp,m⟩:=h.fam.stepG (ps':=qfv {M with F:=qcg M.F i F'} (setSite W i S')) (i:=i) (by omega) (p:=qip (M.bp i) F' S') l (by show (if i<W.n then _ else _)=_;rw[if_pos hi];show qip (M.bp i) (qcg M.F i F' i) (qcg W.S i S' i)=_;rw[qam,qam]) (λj r c=>by
  show (if j<W.n then qip (M.bp j) (qcg M.F i F' j) (qcg W.S i S' j)else _)=(if j<W.n then _ else _);rw[qby _ _ c,qby _ _ c]
  rfl)
 refine⟨a,h.keep kp f (λj k o r e=>?_) rfl rfl rfl rfl rfl rfl,g,m⟩;by_cases q:j=i
 ·subst q;rw[qam];exact d k o e
 ·rw[qby _ _ q];exact e
theorem qgh.next {i w2:World} {W1 k:WoS} (h:qgh w b M Gs W1 i) (f:∀d g,RWo i b {M with yv:=d,l:=g} W1 Gs->qgh i b {M with yv:=d,l:=g} Gs k w2):qgh w b M Gs k w2:=by
 obtain⟨d,g,n,m,a⟩:=h;obtain⟨o,l2,g1,p,c⟩:=f d g n;have s:=a.size;refine⟨o,l2,g1,λq e=>?_,⟨c.os.trans a.os,c.tape.trans a.tape,c.output.trans a.output,Nat.le_trans s c.size,λq t j=>?_⟩⟩
 ·rcases p q e with r|r
  ·exact m q r
  ·exact .inr (by omega)
 ·refine(c.block q (by omega) (λe=>?_)).trans (a.block q t j);rcases e with e|e
  ·exact j (.inl e)
  ·rcases m q e with r|r
   ·exact j (.inr r)
   ·omega
theorem qco.know {lv wv sv:Value} {log waits:List TxM} (h:qco w b lv wv sv S log waits) {k:Nat} (d:k<4) (x0 x1 x2 x3:Int):
 qco ((((w.setCell ⟨b,10+k*4,none⟩ (int i64 (qb9 (S.oth (k*4)) x0))).setCell ⟨b,10+k*4+1,none⟩ (int i64 (qb9 (S.oth (k*4+1)) x1))).setCell ⟨b,10+k*4+2,none⟩ (int i64 (qb9 (S.oth (k*4+2)) x2))).setCell ⟨b,10+k*4+3,none⟩ (int i64 (qb9 (S.oth (k*4+3)) x3))) b lv wv sv (qbs S k x0 x1 x2 x3) log waits:=by
 have a:(qc5 S lv wv sv).length=26:=rfl;have a1:=h.box.set (10+k*4) (int i64 (qb9 (S.oth (k*4)) x0)) (by rw[a];omega);have a2:=a1.set (10+k*4+1) (int i64 (qb9 (S.oth (k*4+1)) x1)) (by rw[List.length_set,a];omega);have a3:=a2.set (10+k*4+2) (int i64 (qb9 (S.oth (k*4+2)) x2)) (by rw[List.length_set,List.length_set,a];omega);have a4:=a3.set (10+k*4+3) (int i64 (qb9 (S.oth (k*4+3)) x3)) (by rw[List.length_set,List.length_set,List.length_set,a];omega);refine h.cells (λj c=>?_) ?_ rfl
 ·rw[Below.heap_setCell _ _ _ _ c,Below.heap_setCell _ _ _ _ c,Below.heap_setCell _ _ _ _ c,Below.heap_setCell _ _ _ _ c]
 ·match k,d with
  |0,_=>exact a4
  |1,_=>exact a4
  |2,_=>exact a4
  |3,_=>exact a4
theorem RS.know (h:RS w b G F S) {k:Nat} (l:k<4) (x0 x1 x2 x3:Int):
 RPo w b G F (qbs S k x0 x1 x2 x3) ((((w.setCell ⟨b,10+k*4,none⟩ (int i64 (qb9 (S.oth (k*4)) x0))).setCell ⟨b,10+k*4+1,none⟩ (int i64 (qb9 (S.oth (k*4+1)) x1))).setCell ⟨b,10+k*4+2,none⟩ (int i64 (qb9 (S.oth (k*4+2)) x2))).setCell ⟨b,10+k*4+3,none⟩ (int i64 (qb9 (S.oth (k*4+3)) x3))):=by
 obtain⟨lv,wv,sv,log,waits,g,m,n,i,p⟩:=h;have c:∀(w:World) (o:Nat) (u:Value),qae (λj=>j=b) w (w.setCell ⟨b,o,none⟩ u):=λw o u=>qae.setCell w ⟨b,o,none⟩ u rfl;have a:qae (λj=>j=b) w ((((w.setCell ⟨b,10+k*4,none⟩ (int i64 (qb9 (S.oth (k*4)) x0))).setCell ⟨b,10+k*4+1,none⟩ (int i64 (qb9 (S.oth (k*4+1)) x1))).setCell ⟨b,10+k*4+2,none⟩ (int i64 (qb9 (S.oth (k*4+2)) x2))).setCell ⟨b,10+k*4+3,none⟩ (int i64 (qb9 (S.oth (k*4+3)) x3))):=(((c _ _ _).trans (c _ _ _)).trans (c _ _ _)).trans (c _ _ _);refine⟨G,⟨lv,wv,sv,log,waits,g.know l x0 x1 x2 x3,m,n,i,p.touch g ⟨a.os,a.tape,a.output,a.size,λj d f=>a.block j d (λe=>f (.inl e))⟩ (λ_ q=>q)⟩,λ_ e=>.inl e,⟨a.os,a.tape,a.output,a.size,λj d f=>a.block j d (λe=>f ((i j).2 (.inl (.inl e))))⟩⟩
open Classical in
theorem qtn (c d g i:Int) (w:World) (h:RS w b G F S) (l:qcx S):
 Calls Tryz.prog 85 #[.pointer (some ⟨b,0,none⟩),.agg #[int i64 c,int i64 d,int i64 g,int i64 i]] w λe w'=>∃v,e=.returned v/\∃(kept:List TxM) (F':Nat->Option Obj),kept.map (·.t)=qhm S c d g i/\w'.ownsRow (w.heap.size+1) 102 9 v kept.length (qfi kept)/\(∀m∈kept,qaz w' m.wa m.wc m.t.ws/\∀k,m.blk k->∃o,F' k=some o)/\(∀k o,F k=some o->F' k=some o)/\RS w b G F' S/\Below w.heap.size w w':=by
 obtain⟨lv,wv,sv,log,waits,h,j,p,r,s⟩:=h
 have B:log.length=S.log.length:=by rw[<-j];simp
 refine(qp3 c d g i w h (λm a=>(l.lsite m.t (by rw[<-j];exact List.mem_map.2 ⟨m,a,rfl⟩)).1) (by have:=l.log;omega)).mono λe w' ⟨v,u,x,n⟩=>⟨v,u,log.filter (qgl c d g i),λk=>if ∃m∈log,m.blk k then w.heap[k]?else none,qs4 j _ _ _ _,x,λm a=>?_,λk o e=>?_,⟨lv,wv,sv,log,waits,h,j,p,r,λk o e=>?_⟩,n⟩
 ·have a:=(List.mem_filter.1 a).1;have q:=(h.hold m (List.mem_append.2 (.inl a))).1;exact⟨q.later n,λk e=>⟨_,(if_pos ⟨m,a,e⟩).trans (Array.getElem?_eq_getElem (q.blk_lt k e))⟩⟩
 ·obtain⟨y,m,a,z⟩:=s k o e;show (if _ then _ else _)=_;rw[if_pos ⟨m,a,z⟩];exact y
 ·have e:(if ∃m∈log,m.blk k then w.heap[k]?else none)=some o:=e;split at e
  ·rename_i q;exact⟨e,q⟩
  ·simp at e
end
end
section
open Go.Value Go.IntKind Go.RowKit
variable {w:World}
theorem q9w {a k:Nat} {S:qaf} {lv wv sv:Value} (h:qag w a (qc5 S lv wv sv)) (c:k<4):w.cell? ⟨a,10+k*4,none⟩=some (int i64 (S.oth (k*4)))/\w.cell? ⟨a,10+k*4+1,none⟩=some (int i64 (S.oth (k*4+1)))/\w.cell? ⟨a,10+k*4+2,none⟩=some (int i64 (S.oth (k*4+2)))/\w.cell? ⟨a,10+k*4+3,none⟩=some (int i64 (S.oth (k*4+3))):=
 ⟨h.cell _ _ (by match k,c with|0,_=>rfl|1,_=>rfl|2,_=>rfl|3,_=>rfl),h.cell _ _ (by match k,c with|0,_=>rfl|1,_=>rfl|2,_=>rfl|3,_=>rfl),h.cell _ _ (by match k,c with|0,_=>rfl|1,_=>rfl|2,_=>rfl|3,_=>rfl),h.cell _ _ (by match k,c with|0,_=>rfl|1,_=>rfl|2,_=>rfl|3,_=>rfl)⟩
def jdg (w:World) (b:Nat) (G:Nat->Prop) (W:WoS) (g:GrS) (e:Ending) (w':World):Prop:=e=.returned (.tuple #[])/\∃W',Hid (qhb W g W')/\qfc w b G W' w'
variable {b:Nat} {G:Nat->Prop}
theorem qfc.from {a w':World} {W':WoS} (hb:Below w.heap.size w a) (h:qfc a b G W' w'):qfc w b G W' w':=by
 obtain⟨c,d,e,f⟩:=h;have s:=hb.size;exact⟨c,d,λk g=>(e k g).imp id (λq=>by omega),(qae.ofBelow hb).trans f⟩
variable {W:WoS} {i:Nat}
theorem q4d (site seq wall count d0 d1 d2 d3:Int) (ws:List Wr) (a:Option Addr) (c:Nat) (w:World) (h:RW w b G W) (s:WfW W) (hi:i<W.n) (u:qaz w a c ws) (P:0<seq):
 Calls Tryz.prog 37 #[.pointer (some ⟨b,0,none⟩),.agg #[int i64 i,int i64 site,int i64 seq,int i64 wall,int i64 count,int i64 d0,int i64 d1,int i64 d2,int i64 d3,.slice a ws.length c,int i64 0,int i64 0,int i64 0,int i64 0,int i64 0]] w (jdg w b G W ⟨i,.tx ⟨site,seq,wall,count,d0,d1,d2,d3,ws⟩⟩):=by
 obtain⟨M,p,h,x⟩:=h;have y:=boxed (Below.refl _ w) (.cells #[int i64 i,int i64 site,int i64 seq,int i64 wall,int i64 count,int i64 d0,int i64 d1,int i64 d2,int i64 d3,.slice a ws.length c,int i64 0,int i64 0,int i64 0,int i64 0,int i64 0] 108);have l:=qag.new (w:=w) (T:=108) [int i64 i,int i64 site,int i64 seq,int i64 wall,int i64 count,int i64 d0,int i64 d1,int i64 d2,int i64 d3,.slice a ws.length c,int i64 0,int i64 0,int i64 0,int i64 0,int i64 0] rfl;change qag (w.alloc (.cells #[int i64 i,int i64 site,int i64 seq,int i64 wall,int i64 count,int i64 d0,int i64 d1,int i64 d2,int i64 d3,.slice a ws.length c,int i64 0,int i64 0,int i64 0,int i64 0,int i64 0] 108)) w.heap.size [int i64 i,int i64 site,int i64 seq,int i64 wall,int i64 count,int i64 d0,int i64 d1,int i64 d2,int i64 d3,.slice a ws.length c,int i64 0,int i64 0,int i64 0,int i64 0,int i64 0]at l;have z:=h.later y;obtain⟨g,cap,c0,Q,R,B⟩:=z.sitesAt hi;have E:=Later.cell c0;have H:=Later.cell (B i hi);have I:=Later.cell (l.cell 0 _ rfl)
 have U:(i:Int)<(W.n:Int):=by omega
 have V:=Later.one;have j:Hid (RWo w b M W p/\(∀k,G k↔qmp b M (W.n+W.c) p k)/\WfW W/\i<W.n/\qaz w a c ws):=⟨h,x,s,hi,u⟩;clear h x B hi z u c0 s;go_enter Tryz.func37,Tryz.ntmps37
 go_wp2_with fail
 refine qaa (by kernel_rfl) (by kernel_rfl) ?_
 repeat (go_big_quiet_step (first|rfl|fail))
 refine wpQuiet_nil ?_;rintro C ⟨⟨_,D⟩,rfl⟩;have d:=l.later D;have q:=qab y D;have r:=j.out.1.later q
 have J:Hid (Calls Tryz.prog 84 #[.pointer (some ⟨M.bp i,0,none⟩),.agg #[int i64 site,int i64 seq,int i64 wall,int i64 count,int i64 d0,int i64 d1,int i64 d2,int i64 d3,.slice a ws.length c]] C λe w'=>∃v,e=.returned v/\∃S',qb8 (W.S i) ⟨site,seq,wall,count,d0,d1,d2,d3,ws⟩ S'/\RPo C (M.bp i) (p i) (M.F i) S' w'):=
  (qva ⟨⟨site,seq,wall,count,d0,d1,d2,d3,ws⟩,a,c⟩ _ (r.site j.out.2.2.2.1) (j.out.2.2.1.inv i j.out.2.2.2.1) (Nat.le_trans (j.out.2.2.1.wt i j.out.2.2.2.1) (by omega)) (j.out.2.2.2.2.later q)).mono λe w' ⟨K,S',m,o⟩=>⟨_,K,S',m,o⟩
 have L:Hid _:=r;have X:=d.cell 0 _ rfl;have Y:=d.cell 1 _ rfl;have Z:=d.cell 2 _ rfl;have aa:=d.cell 3 _ rfl;have ab:=d.cell 4 _ rfl;have ac:=d.cell 5 _ rfl;have ad:=d.cell 6 _ rfl;have ae:=d.cell 7 _ rfl;have af:=d.cell 8 _ rfl;have ag:=d.cell 9 _ rfl;clear r l E H I d
 go_wp2_with fail
 refine J.out.mono ?_;rintro e w4 ⟨v4,rfl,S',m,o⟩;have N:Hid _:=qfc.from q (L.out.stepS j.out.2.1 j.out.2.2.2.1 o);have O:Hid _:=m;clear m o
 go_wp2_with fail
 go_end0;exact⟨rfl,_,⟨S',O.out,rfl⟩,N.out⟩
theorem qzz (v0 v1 v2 v3:Int) (w:World) (h:RW w b G W) (hw:WfW W) {o:Nat} (hi:i<W.n) (ho:o<W.n):
 Calls Tryz.prog 37 #[.pointer (some ⟨b,0,none⟩),.agg #[int i64 i,int i64 0,int i64 0,int i64 0,int i64 0,int i64 0,int i64 0,int i64 0,int i64 0,.slice none 0 0,int i64 o,int i64 v0,int i64 v1,int i64 v2,int i64 v3]] w λe w'=>e=.returned (.tuple #[])/\qfc w b G (qdy W i o v0 v1 v2 v3) w':=by
 obtain⟨M,Gs,h,hG⟩:=h;have hb1:=boxed (Below.refl _ w) (.cells #[int i64 i,int i64 0,int i64 0,int i64 0,int i64 0,int i64 0,int i64 0,int i64 0,int i64 0,.slice none 0 0,int i64 o,int i64 v0,int i64 v1,int i64 v2,int i64 v3] 108);have RG:=qag.new (w:=w) (T:=108) [int i64 i,int i64 0,int i64 0,int i64 0,int i64 0,int i64 0,int i64 0,int i64 0,int i64 0,.slice none 0 0,int i64 o,int i64 v0,int i64 v1,int i64 v2,int i64 v3] rfl;change qag (w.alloc (.cells #[int i64 i,int i64 0,int i64 0,int i64 0,int i64 0,int i64 0,int i64 0,int i64 0,int i64 0,.slice none 0 0,int i64 o,int i64 v0,int i64 v1,int i64 v2,int i64 v3] 108)) w.heap.size [int i64 i,int i64 0,int i64 0,int i64 0,int i64 0,int i64 0,int i64 0,int i64 0,int i64 0,.slice none 0 0,int i64 o,int i64 v0,int i64 v1,int i64 v2,int i64 v3]at RG;have H1:=h.later hb1;obtain⟨g,cap,c0,hcap,hg,hc⟩:=H1.sitesAt hi;have k0:=Later.cell c0;have J:=Later.cell (hc i hi);have K:=Later.cell (RG.cell 0 _ rfl);have hne:=Later.one
 have L:(i:Int)<(W.n:Int):=by omega
 have n4:=hw.n4
 have q4:(o:Int)<4:=by omega
 have hk4:o<4:=by omega
 have hlt:=h.box.lt
 have X:∃lv wv sv,qag w (M.bp i) (qc5 (W.S i) lv wv sv):=by
  obtain⟨lv,wv,sv,log,waits,hM,_⟩:=h.site hi;exact⟨lv,wv,sv,hM.box⟩
 obtain⟨lv,wv,sv,X⟩:=X;have xlt:=X.lt;have HX:Hid _:=X;have d:Hid (RWo w b M W Gs/\(∀k,G k↔qmp b M (W.n+W.c) Gs k)/\WfW W/\i<W.n):=⟨h,hG,hw,hi⟩;clear h hG hc hi H1 hw X c0;go_enter Tryz.func37,Tryz.ntmps37
 go_wp2_with fail
 refine qaa (by kernel_rfl) (by kernel_rfl) ?_
 repeat (go_big_quiet_step (first|rfl|fail))
 refine wpQuiet_nil ?_;rintro w2 ⟨⟨_,hb2⟩,rfl⟩;have H:=RG.later hb2;have hbw:=qab hb1 hb2;have hbD:=hbw.drew;obtain⟨o0,o1,o2,o3⟩:=q9w (HX.out.later hbw) hk4;have xl2:=(HX.out.later hbw).lt;have gl2:=H.lt;have HR:Hid _:=H;have g2_:=H.cell 2 _ rfl;have g10_:=H.cell 10 _ rfl;have g11_:=H.cell 11 _ rfl;have g12_:=H.cell 12 _ rfl;have g13_:=H.cell 13 _ rfl;have g14_:=H.cell 14 _ rfl;clear RG k0 J K H
 go_wp2_with fail
 go_region_law (refine qav rfl 83 #[.agg #[int i64 ((W.S i).oth (o*4)),int i64 ((W.S i).oth (o*4+1)),int i64 ((W.S i).oth (o*4+2)),int i64 ((W.S i).oth (o*4+3))],.agg #[int i64 v0,int i64 v1,int i64 v2,int i64 v3]] (by go_simp) (qq6 _ _ _ _ v0 v1 v2 v3 _) ?_
                rintro e wa ⟨rfl,hba⟩;refine⟨_,rfl,?_⟩;have N:=qab hbD hba;have RGA:=HR.out.later (qab (Below.refl _ _).drew hba);have O:=HX.out.later N;obtain⟨p0,p1,p2,p3⟩:=q9w O hk4;have f0:=O.free (10+o*4) (by simp[qc5];omega);have f1:=O.free (10+o*4+1) (by simp[qc5];omega);have f2:=O.free (10+o*4+2) (by simp[qc5];omega);have f3:=O.free (10+o*4+3) (by simp[qc5];omega)
                have e10:=RGA.cell 10 _ rfl)
 all_goals
  have HA:=d.out.1.later N;obtain⟨Gs2,Y,hsub,P⟩:=HA.stepSm (F':=M.F i) d.out.2.2.2 (λ_ _ e=>e) ((HA.site d.out.2.2.2).know hk4 v0 v1 v2 v3);obtain⟨I,hWB⟩:∃I,(((wa.setCell ⟨M.bp i,10+o*4,none⟩ (int i64 (qb9 ((W.S i).oth (o*4)) v0))).setCell ⟨M.bp i,10+o*4+1,none⟩ (int i64 (qb9 ((W.S i).oth (o*4+1)) v1))).setCell ⟨M.bp i,10+o*4+2,none⟩ (int i64 (qb9 ((W.S i).oth (o*4+2)) v2))).setCell ⟨M.bp i,10+o*4+3,none⟩ (int i64 (qb9 ((W.S i).oth (o*4+3)) v3))=I:=⟨_,rfl⟩;rw[hWB]at Y P ⊢;rw[qtf]at Y;have hS2:(setSite W i (qbs (W.S i) o v0 v1 v2 v3)).S i=qbs (W.S i) o v0 v1 v2 v3:=qam _ _ _;have Q:qag I w.heap.size [int i64 i,int i64 0,int i64 0,int i64 0,int i64 0,int i64 0,int i64 0,int i64 0,int i64 0,.slice none 0 0,int i64 o,int i64 v0,int i64 v1,int i64 v2,int i64 v3]:=RGA.kept (P.block _ RGA.lt (λe=>by have:=d.out.1.ltG (by have:=d.out.2.2.2;omega) e;omega)) P.size;have MS:=qtn v0 v1 v2 v3 I (Y.site (i:=i) d.out.2.2.2) (by rw[hS2];exact(d.out.2.2.1.inv i d.out.2.2.2).knows _);rw[show qhm ((setSite W i (qbs (W.S i) o v0 v1 v2 v3)).S i) v0 v1 v2 v3=qhm (W.S i) v0 v1 v2 v3 by rw[hS2];rfl]at MS;have R:Hid (RWo I b M (setSite W i (qbs (W.S i) o v0 v1 v2 v3)) Gs2/\(∀j k,Gs2 j k->Gs j k\/w.heap.size<=k)/\qae G w I/\w.heap.size<=I.heap.size):=⟨Y,λj k e=>(hsub j k e).elim .inl (λq=>.inr (by have:=N.size;omega)),(qae.ofBelow N).more P (λk e=>.inl ((d.out.2.1 k).2 (.inr ⟨i,by have:=d.out.2.2.2;omega,e⟩))),by have:=N.size;have:=P.size;omega⟩;clear o0 o1 o2 o3 g2_ g10_ g11_ g12_ g13_ g14_ Y hsub P HA hba N RGA O p0 p1 p2 p3 f0 f1 f2 f3 e10 hS2 hWB;have g11_:=Q.cell 11 _ rfl;have g12_:=Q.cell 12 _ rfl;have g13_:=Q.cell 13 _ rfl;have g14_:=Q.cell 14 _ rfl;have HB:Hid _:=Q;clear Q
  go_wp2_with fail
  refine MS.mono ?_;rintro e x ⟨v,rfl,kept,F',J,K,k3,kF,kR,k4⟩;obtain⟨ma,mc,hv,hMx⟩:=qbl K;subst hv;obtain⟨U,K3,hsub3,tt3⟩:=R.out.1.stepSm (F':=F') d.out.2.2.2 kF (RPo.same kR k4);rw[qt9]at K3
  have hkl:kept.length<=200:=by
   have e1:=congrArg List.length J;have e2:(qhm (W.S i) v0 v1 v2 v3).length<=(W.S i).log.length:=List.length_filter_le _ _;have e3:=(d.out.2.2.1.inv i d.out.2.2.2).log;simp at e1;omega
  have hml:=hMx.len;have hmc:=hMx.cap;obtain⟨p,hM3,eb,ey⟩:∃p:RoM,p={M with F:=qcg M.F i F'}/\(∀k,qak b p k↔qak b M k)/\p.yv=M.yv:=⟨_,rfl,λ_=>Iff.rfl,rfl⟩
  have hF3:∀m∈kept,∀k,m.blk k->∃o,p.F i k=some o:=λm D k e=>by
   rw[hM3];show ∃o,qcg M.F i F' i k=some o;rw[qam];exact(k3 m D).2 k e
  rw[<-hM3]at K3
  have y:Hid (qew x ma mc kept/\kept.map (·.t)=qhm (W.S i) v0 v1 v2 v3/\(∀m∈kept,qaz x m.wa m.wc m.t.ws/\∀k,m.blk k->∃o,p.F i k=some o)/\(∀k Z,ma=some ⟨k,Z,none⟩->kept≠[]->w.heap.size<=k)/\RWo x b p (setSite W i (qbs (W.S i) o v0 v1 v2 v3)) U/\Below I.heap.size I x/\(∀j k,U j k->Gs j k\/w.heap.size<=k)/\(∀k,qak b p k↔qak b M k)/\qag x w.heap.size [int i64 i,int i64 0,int i64 0,int i64 0,int i64 0,int i64 0,int i64 0,int i64 0,int i64 0,.slice none 0 0,int i64 o,int i64 v0,int i64 v1,int i64 v2,int i64 v3]):=⟨hMx,J,λm D=>⟨(k3 m D).1,hF3 m D⟩,λk Z e hn=>by
   rcases K.2 with ⟨q,h0⟩|⟨g,cap,cur,q,hb9,_⟩
   ·exact absurd (List.eq_nil_of_length_eq_zero h0) hn
   ·injection q with L q2 q3;rw[e]at L;injection L with L;injection L with L;have:=R.out.2.2.2
    omega,K3,k4,λj k e=>(hsub3 j k e).elim (R.out.2.1 j k) (λq=>.inr (by have:=R.out.2.2.2;omega)),eb,HB.out.later k4⟩
  clear MS g11_ g12_ g13_ g14_ J K k3 k4 kF kR K3 hMx hsub3 tt3 hF3 hM3 ey eb HB
  go_wp2_with fail
  go_loopw [44] (λiv wr=>∃(k:Nat) (z:Int),k<=kept.length/\z=k/\iv=int i64 z/\Hid (qgh x b p U (qch o ((kept.map (·.t)).take k) (setSite W i (qbs (W.S i) o v0 v1 v2 v3))) wr)) (λiv _=>kept.length-(intOf iv).toNat)
  case atStart=>exact⟨0,0,by omega,rfl,rfl,qgh.none y.out.2.2.2.2.1 (Below.refl _ _)⟩
  case round=>
   obtain⟨k,z,hk,hz,rfl,HS⟩:=hrel;have HZ:Hid _:=hz;by_cases hlt2:k<kept.length
   ·have g1:z<(kept.length:Int):=by omega
    have g2:z.toNat=k:=by omega
    have g3:0<=z:=by omega
    have g4:z<200:=by omega
    clear hz
    obtain⟨B,C,haa,hcc⟩:∃b Z,ma=some ⟨b,Z,none⟩/\∀i m r u,kept[i]?=some m->(txC m)[r]?=some u->x.cell? ⟨b,Z+(i*9+r),none⟩=some u:=by
     rcases y.out.1.held with h0|h0
     ·rw[h0]at hlt2;simp at hlt2
     ·exact h0
    have hne:kept≠[]:=λe=>by rw[e]at hlt2;simp at hlt2
    have hab:=y.out.2.2.2.1 B C haa hne;subst haa;have ltb:∀q,qak b p q->q<w.heap.size:=λq e=>d.out.1.ltF q ((y.out.2.2.2.2.2.2.2.1 q).1 e)
    have kp:∀q,w.heap.size<=q->q<x.heap.size->wr.heap[q]?=x.heap[q]?:=λq hq hq3=>by
     obtain⟨_,_,_,_,V⟩:=HS.out;refine V.block q hq3 (λe=>?_)
     have:qak b p q:=by
      rcases e with e|e
      ·rw[e];simp[qak,qeq]
      ·unfold qak qeq;rw[e];simp
     have:=ltb q this;omega
    have hs3:x.heap.size<=wr.heap.size:=by
     obtain⟨_,_,_,_,V⟩:=HS.out;exact V.size
    have RGr:qag wr w.heap.size [int i64 i,int i64 0,int i64 0,int i64 0,int i64 0,int i64 0,int i64 0,int i64 0,int i64 0,.slice none 0 0,int i64 o,int i64 v0,int i64 v1,int i64 v2,int i64 v3]:=y.out.2.2.2.2.2.2.2.2.kept (kp _ (Nat.le_refl _) y.out.2.2.2.2.2.2.2.2.lt) hs3;obtain⟨⟨⟨site,seq,wall,count,d0,d1,d2,d3,ws⟩,a,c⟩,D⟩:∃m,kept[k]?=some m:=⟨_,List.getElem?_eq_getElem hlt2⟩;have hab3:B<x.heap.size:=World.block_lt_of_cell? _ _ (hcc k _ 0 _ D rfl)
    have E:∀r u,(txC ⟨⟨site,seq,wall,count,d0,d1,d2,d3,ws⟩,a,c⟩)[r]?=some u->wr.cell? ⟨B,C+(k*9+r),none⟩=some u:=λr u hu=>by rw[World.cell?_of_block (w:=x) (kp B hab hab3)];exact hcc k _ r u D hu
    have x0:wr.cell? ⟨B,C+k*9,none⟩=some (int i64 site):=E 0 _ rfl;have x1:wr.cell? ⟨B,C+k*9+1,none⟩=some (int i64 seq):=E 1 _ rfl;have x2:wr.cell? ⟨B,C+k*9+2,none⟩=some (int i64 wall):=E 2 _ rfl;have x3:wr.cell? ⟨B,C+k*9+3,none⟩=some (int i64 count):=E 3 _ rfl;have x4:wr.cell? ⟨B,C+k*9+4,none⟩=some (int i64 d0):=E 4 _ rfl;have x5:wr.cell? ⟨B,C+k*9+5,none⟩=some (int i64 d1):=E 5 _ rfl;have x6:wr.cell? ⟨B,C+k*9+6,none⟩=some (int i64 d2):=E 6 _ rfl;have x7:wr.cell? ⟨B,C+k*9+7,none⟩=some (int i64 d3):=E 7 _ rfl;have x8:wr.cell? ⟨B,C+k*9+8,none⟩=some (.slice a ws.length c):=E 8 _ rfl;have hmem:=List.mem_of_getElem? D
    have HT:Hid (qch o ((kept.map (·.t)).take (k+1)) (setSite W i (qbs (W.S i) o v0 v1 v2 v3))=if site=(o:Int)then qch o ((kept.map (·.t)).take k) (setSite W i (qbs (W.S i) o v0 v1 v2 v3))else qdd (qch o ((kept.map (·.t)).take k) (setSite W i (qbs (W.S i) o v0 v1 v2 v3))) ⟨o,.tx ⟨site,seq,wall,count,d0,d1,d2,d3,ws⟩⟩):=by
     show _=_;rw[List.take_add_one,List.getElem?_map,D];exact qlc o ⟨site,seq,wall,count,d0,d1,d2,d3,ws⟩ _ _
    have bx:=boxed (Below.refl _ wr) (.cells #[int i64 site,int i64 seq,int i64 wall,int i64 count,int i64 d0,int i64 d1,int i64 d2,int i64 d3,.slice a ws.length c] 102);have RX:=qag.new (w:=wr) (T:=102) [int i64 site,int i64 seq,int i64 wall,int i64 count,int i64 d0,int i64 d1,int i64 d2,int i64 d3,.slice a ws.length c] rfl;change qag (wr.alloc (.cells #[int i64 site,int i64 seq,int i64 wall,int i64 count,int i64 d0,int i64 d1,int i64 d2,int i64 d3,.slice a ws.length c] 102)) wr.heap.size [int i64 site,int i64 seq,int i64 wall,int i64 count,int i64 d0,int i64 d1,int i64 d2,int i64 d3,.slice a ws.length c]at RX;have r10:=(RGr.later bx).cell 10 _ rfl;obtain⟨t0,t1,t2,t3,t4,t5,t6,t7,t8⟩:=RX.c9;have lr:=RGr.lt;have HQ:Hid _:=y.out.2.2.1 _ hmem;clear hcc E kp ltb D hmem hab hab3 hne RGr;by_cases hs:site=(o:Int)
    ·subst hs;have HT2:Hid _:=HT.out.trans (if_pos rfl)
     go_wp2_with fail
     go_roundw
     case rel=>exact⟨k+1,z+1,by omega,by have:=HZ.out;omega,by go_num,by show qgh _ _ _ _ _ _;rw[HT2.out];exact HS.out.next (λnv l hP=>qgh.none hP (boxed (Below.refl _ wr) _))⟩
     case measure=>simp[intOf];have:=HZ.out;omega
    ·have HT2:Hid _:=HT.out.trans (if_neg hs);have sm:=qfd o ((kept.map (·.t)).take k) (setSite W i (qbs (W.S i) o v0 v1 v2 v3))
     have SX:Hid (Calls Tryz.prog 82 #[.pointer (some ⟨b,0,none⟩),.agg #[int i64 o,int i64 site,int i64 seq,int i64 wall,int i64 count,int i64 d0,int i64 d1,int i64 d2,int i64 d3,.slice a ws.length c,int i64 0,int i64 0,int i64 0,int i64 0,int i64 0]] (wr.alloc (.cells #[int i64 site,int i64 seq,int i64 wall,int i64 count,int i64 d0,int i64 d1,int i64 d2,int i64 d3,.slice a ws.length c] 102)) λe w'=>e=.returned (.tuple #[])/\qgh x b p U (qdd (qch o ((kept.map (·.t)).take k) (setSite W i (qbs (W.S i) o v0 v1 v2 v3))) ⟨o,.tx ⟨site,seq,wall,count,d0,d1,d2,d3,ws⟩⟩) w'):=by
      obtain⟨yv',l',h1,h2,V⟩:=HS.out.next (λnv l hP=>qgh.none hP bx)
      have ok:GrR.Ok (wr.alloc (.cells #[int i64 site,int i64 seq,int i64 wall,int i64 count,int i64 d0,int i64 d1,int i64 d2,int i64 d3,.slice a ws.length c] 102)) (qch o ((kept.map (·.t)).take k) (setSite W i (qbs (W.S i) o v0 v1 v2 v3))).n p.F ⟨⟨o,.tx ⟨site,seq,wall,count,d0,d1,d2,d3,ws⟩⟩,a,c⟩:=by
       have hin:i<(qch o ((kept.map (·.t)).take k) (setSite W i (qbs (W.S i) o v0 v1 v2 v3))).n:=by rw[sm.n];exact d.out.2.2.2
       refine⟨qaz.kept (m:=⟨⟨site,seq,wall,count,d0,d1,d2,d3,ws⟩,a,c⟩) HQ.out.1 (λq e=>?_),λq e=>?_,λ_ _ _ _ _ e=>by simp at e⟩
       ·obtain⟨ob,hob⟩:=HQ.out.2 q e;exact((h1.site hin).frozen hob).trans ((y.out.2.2.2.2.1.site (i:=i) d.out.2.2.2).frozen hob).symm
       ·obtain⟨ob,hob⟩:=HQ.out.2 q e;exact⟨i,ob,hin,hob⟩
      refine(qnx _ h1 ⟨⟨o,.tx ⟨site,seq,wall,count,d0,d1,d2,d3,ws⟩⟩,a,c⟩ ok rfl).mono λe w' ⟨he,hS⟩=>⟨he,?_⟩;have s:=V.size;obtain⟨yv2,l2,g1',g2',gt⟩:=hS;refine⟨yv2,l2,g1',λq e=>(g2' q e).elim (h2 q) (λr=>.inr (by omega)),V.more gt (λq e=>?_)⟩;exact e.elim (λr=>.inl (.inl r)) (λr=>(h2 q r).imp .inr id)
     go_wp2_with fail
     refine SX.out.mono ?_;rintro e w5 ⟨rfl,hS⟩;have SN:Hid _:=hS;clear SX hS sm x0 x1 x2 x3 x4 x5 x6 x7 x8 t0 t1 t2 t3 t4 t5 t6 t7 t8 RX
     go_wp2_with fail
     go_roundw
     case rel=>exact⟨k+1,z+1,by omega,by have:=HZ.out;omega,by go_num,by show qgh _ _ _ _ _ _;rw[HT2.out];exact SN.out⟩
     case measure=>simp[intOf];have:=HZ.out;omega
   ·have g1:¬z<(kept.length:Int):=by omega
    have e:k=kept.length:=by omega
    go_wp2_with fail
    go_end0;have S9:=HS.out;rw[e,show ((kept.map (·.t)).take kept.length)=qhm (W.S i) v0 v1 v2 v3 by rw[<-y.out.2.1];exact List.take_of_length_le (by simp)]at S9;have sm:=qfd o (qhm (W.S i) v0 v1 v2 v3) (setSite W i (qbs (W.S i) o v0 v1 v2 v3));have P1:qfc x b (qmp b p (W.n+W.c) U) (qdy W i o v0 v1 v2 v3) wr:=S9.post (W:=W) (λ_=>Iff.rfl) sm.n sm.c;obtain⟨G5,J,K,kt⟩:=P1;have hs:=R.out.2.2.1.size;have hs2:=y.out.2.2.2.2.2.1.size
    have sub:∀q,qmp b p (W.n+W.c) U q->G q\/w.heap.size<=q:=λq hq=>by
     rcases hq with r|⟨j,hj,r⟩
     ·exact .inl ((d.out.2.1 q).2 (.inl ((y.out.2.2.2.2.2.2.2.1 q).1 r)))
     ·exact(y.out.2.2.2.2.2.2.1 j q r).imp (λr2=>(d.out.2.1 q).2 (.inr ⟨j,hj,r2⟩)) id
    exact⟨rfl,G5,J,λq hq=>(K q hq).elim (sub q) (λr=>.inr (by omega)),(R.out.2.2.1.trans (qae.ofBelow y.out.2.2.2.2.2.1)).more kt sub⟩
theorem q0y (x:GrR) (w:World) (h:RW w b G W) (d:WfW W) (j:x.g.to<W.n) (l:qaz w x.m.wa x.m.wc x.m.t.ws) (p:∀s a0 a1 a2 a3,x.g.body=.ask s a0 a1 a2 a3->x.wa=none/\x.wc=0) (k:jcz W.n x.g):
 Calls Tryz.prog 37 #[.pointer (some ⟨b,0,none⟩),.agg (qd9 x).toArray] w (jdg w b G W x.g):=by
 obtain⟨⟨to,body⟩,a,c⟩:=x;cases body with
 |tx t=>exact q4d t.site t.seq t.wall t.count t.d0 t.d1 t.d2 t.d3 t.ws a c w h d j l (by have:okT t=true:=k;have:=(qei this).2.1;omega)
 |ask s v0 v1 v2 v3=>
  obtain⟨q,r⟩:0<=s/\s<(W.n:Int):=k;obtain⟨o,rfl⟩:∃o:Nat,s=o:=⟨s.toNat,by omega⟩;obtain⟨rfl,rfl⟩:a=none/\c=0:=p _ _ _ _ _ rfl;refine(qzz v0 v1 v2 v3 w h d j (o:=o) (by omega)).mono λe w' ⟨u,v⟩=>⟨u,_,?_,v⟩;show (if 0<=(o:Int)/\(o:Int)<(W.n:Int)then _ else _);rw[if_pos ⟨q,r⟩];rfl
end
section
open Go.RowKit
variable {w w1:World} {b:Nat} {G:Nat->Prop}
theorem qfc.bind {w2:World} {W1 c:WoS} (h:qfc w b G W1 w1) (f:∀a,RW w1 b a W1->qfc w1 b a c w2):qfc w b G c w2:=by
 obtain⟨a,j,d,e⟩:=h;obtain⟨k,p1,p2,p3⟩:=f a j;have s:=e.size;exact⟨k,p1,λq l=>(p2 q l).elim (d q) (λr=>.inr (by omega)),e.more p3 d⟩
def jek (w:World) (b:Nat) (G:Nat->Prop) (W:WoS) (i:Nat) (g:GrS) (e:Ending) (w':World):Prop:=
 ∃x:GrR,e=.returned (.agg (qd9 x).toArray)/\x.g=g/\Hid (qaz w' x.m.wa x.m.wc x.m.t.ws/\(∀s a0 a1 a2 a3,x.g.body=.ask s a0 a1 a2 a3->x.wa=none/\x.wc=0)/\qfc w b G (qdh W i) w')
variable {W:WoS} {i:Nat} {g:GrS}
theorem q5g (w:World) (h:RW w b G W) (c:W.net.length<=300) (hi:W.net[i]?=some g):
 Calls Tryz.prog 38 #[.pointer (some ⟨b,0,none⟩),.int .i64 i] w (jek w b G W i g):=by
 obtain⟨M,B,h,r⟩:=h
 have C:M.l.length=W.net.length:=by rw[<-h.nl];simp
 have s:i<M.l.length:=by have:=(List.getElem?_eq_some_iff.1 hi).1;omega
 obtain⟨x,d⟩:∃x,M.l[i]?=some x:=⟨_,List.getElem?_eq_getElem s⟩
 have t:x.g=g:=by
  have:=hi;rw[<-h.nl,List.getElem?_map,d]at this;exact Option.some.inj this
 have ok:=h.gr x (List.mem_of_getElem? d);refine(jb2 w h c d rfl).mono λe w' ⟨u,v,n,y,a⟩=>⟨x,u,t,?_,ok.none,?_⟩
 ·refine ok.wi.kept (m:=x.m) (λk e=>?_);obtain⟨j,o,p,q⟩:=ok.fr k e;exact((n.site (i:=j) p).frozen q).trans ((h.site p).frozen q).symm
 ·exact qgh.post (W:=W) ⟨v,M.l.eraseIdx i,n,λk e=>.inr (y k e),⟨a.os,a.tape,a.output,a.size,λk z c=>a.block k z (λe=>c (.inl e))⟩⟩ r rfl rfl
theorem qyb {x:GrR} (c:WfW W) (k:qk8 W) (hi:W.net[i]?=some g) (a:x.g=g) (h:Hid (qaz w1 x.m.wa x.m.wc x.m.t.ws/\(∀s a0 a1 a2 a3,x.g.body=.ask s a0 a1 a2 a3->x.wa=none/\x.wc=0)/\qfc w b G (qdh W i) w1)):
 Calls Tryz.prog 37 #[.pointer (some ⟨b,0,none⟩),.agg (qd9 x).toArray] w1 λe w'=>e=.returned (.tuple #[])/\∃W',Hid (qcj W i W')/\qfc w b G W' w':=by
 have d:=List.mem_of_getElem? hi;have y:=h.out.2.2;obtain⟨z,l,s1,j⟩:=h.out.2.2;refine(q0y x w1 l (c.drop i) (by rw[a];exact c.to g d) h.out.1 h.out.2.1 (by rw[a];exact k g d)).mono λe w' ⟨n,W',o,p⟩=>⟨n,W',⟨g,hi,by rw[<-a];exact o.out⟩,?_⟩;obtain⟨u,p1,p2,p3⟩:=p;have s:=j.size;exact⟨u,p1,λq v=>(p2 q v).elim (s1 q) (λr=>.inr (by omega)),j.more p3 s1⟩
theorem qxj {cb:Nat} (w:World) (h:RW w b G W) (z:WfW W) (B:qk8 W) (o:w.cell? ⟨cb,0,none⟩=some (.pointer (some ⟨b,0,none⟩))) (t:¬G cb):
 Calls Tryz.prog 89 #[.pointer (some ⟨cb,0,none⟩)] w λe w'=>e=.returned (.tuple #[])/\∃W',Hid (qcy W W'/\WfW W'/\qk8 W')/\qfc w b G W' w':=by
 have u:Hid (RW w b G W/\WfW W/\qk8 W/\w.cell? ⟨cb,0,none⟩=some (.pointer (some ⟨b,0,none⟩))/\¬G cb):=⟨h,z,B,o,t⟩;have L:cb<w.heap.size:=World.block_lt_of_cell? _ _ o
 have C:Hid (∀w',qae G w w'->w'.cell? ⟨cb,0,none⟩=some (.pointer (some ⟨b,0,none⟩))):=λw' j=>by rw[World.cell?_of_block (w:=w) (j.block cb L t)];exact o
 clear h z B o t;go_enter Tryz.func89,Tryz.ntmps89
 go_wp2_with fail
 go_loopg [1] (qtd W.net) (λk _ wr=>∃W1:WoS,qtd W1.net<=k/\Hid (WfW W1/\qk8 W1/\qfc w b G W1 wr/\∀W',qcy W1 W'->qcy W W'))
 case atStart=>exact⟨W,Nat.le_refl _,u.out.2.1,u.out.2.2.1,qfc.same u.out.1 (Below.refl _ _),λ_ h=>h⟩
 case round=>
  obtain⟨W1,U,a⟩:=hrel
  have c9:wr.cell? ⟨cb,0,none⟩=some (.pointer (some ⟨b,0,none⟩)):=by
   obtain⟨_,_,_,j⟩:=a.out.2.2.1;exact C.out wr j
  obtain⟨D,E,s1,F⟩:=a.out.2.2.1;have m:Hid (RW wr b D W1/\(∀k,D k->G k\/w.heap.size<=k)/\qae G w wr):=⟨E,s1,F⟩;obtain⟨M,V,n,N⟩:=E
  have H:M.l.length=W1.net.length:=by rw[<-n.nl];simp
  obtain⟨X,Y,I,r⟩:=qai n.yr;have c4:=n.box.cell 4 _ rfl;rw[I]at c4;have Z:=r.cap;have aa:=r.len;have ab:=n.box.lt;clear r I n N s1 F;by_cases c:W1.net=[]
  ·have q:¬0<(M.l.length:Int):=by rw[H,c];simp
   go_wp2_with fail
   go_end0;exact⟨rfl,W1,⟨a.out.2.2.2 W1 (.none c),a.out.1,a.out.2.1⟩,a.out.2.2.1⟩
  ·obtain⟨g,v⟩:∃g,W1.net[0]?=some g:=by
        cases hn:W1.net with
        |nil=>exact absurd hn c
        |cons x r=>exact⟨x,rfl⟩
   have q:0<(M.l.length:Int):=by
        have:W1.net.length≠0:=λe=>c (List.eq_nil_of_length_eq_zero e);omega
   have J:Hid (W1.net≠[]/\W1.net[0]?=some g):=⟨c,v⟩
   have O:Hid (∀w',Below wr.heap.size wr w'->Calls Tryz.prog 38 #[.pointer (some ⟨b,0,none⟩),.int .i64 0] w' (jek w b G W1 0 g)):=λw' hb=>(q5g (i:=0) w' (m.out.1.later hb) a.out.1.net v).mono λe w2 ⟨x,P,y,d⟩=>⟨x,P,y,d.out.1,d.out.2.1,by
        obtain⟨Q,p1,p2,p3⟩:=d.out.2.2;have s:=m.out.2.2.size;have s2:=hb.size
        exact⟨Q,p1,λq R=>(p2 q R).elim (m.out.2.1 q) (λr=>.inr (by omega)),(m.out.2.2.trans (qae.ofBelow hb)).more p3 m.out.2.1⟩⟩
   clear H c v
   go_wp2_with fail
   go_region_law (first
      |(refine qcn rfl 38 rfl #[.pointer (some ⟨b,0,none⟩),.int .i64 0] (by go_simp) (O.out _ (Below.refl _ _).drew) ?_
        rintro e w2 ⟨x,rfl,y,d⟩;refine⟨_,rfl,?_⟩
        have ac:w2.cell? ⟨cb,0,none⟩=some (.pointer (some ⟨b,0,none⟩)):=by
         obtain⟨_,_,_,j⟩:=d.out.2.2
         exact C.out w2 j)
      |(refine qcn rfl 37 rfl #[.pointer (some ⟨b,0,none⟩),.agg (qd9 x).toArray] (by go_simp) (qyb a.out.1 a.out.2.1 J.out.2 y d) ?_
        rintro e w3 ⟨rfl,K,p,S⟩
        refine⟨_,rfl,?_⟩))
   all_goals
        have wt:=qkw a.out.1 p.out
        go_wp2_with fail
        go_roundg (qtd K.net)
        case measure=>omega
        case rel=>exact⟨K,Nat.le_refl _,a.out.1.deliver p.out,a.out.2.1.deliver a.out.1 p.out,S,λW' T=>a.out.2.2.2 W' (.step J.out.1 p.out T)⟩
end
section
open Go.RowKit
variable {w:World} {b:Nat} {G:Nat->Prop} {W:WoS}
theorem RW.len0 (h:RW w b G W):∃a cap,w.cell? ⟨b,0,none⟩=some (.slice a W.n cap)/\b<w.heap.size:=by
 obtain⟨M,g,h,_⟩:=h;obtain⟨d,e,f,r⟩:=qai h.sr;have c:=h.box.cell 0 _ rfl;rw[f]at c;exact⟨d,e,c,h.box.lt⟩
theorem qfc.get {w':World} {W':WoS} (h:qfc w b G W' w'):∃a,RW w' b a W':=by
 obtain⟨a,c,_⟩:=h;exact⟨a,c⟩
theorem jbo (w:World) (h:RW w b G W) (K:WfW W) (Z:qk8 W):
 Calls Tryz.prog 41 #[.pointer (some ⟨b,0,none⟩)] w λe w'=>e=.returned (.tuple #[])/\∃W',Hid (qkx W W'/\WfW W'/\qk8 W')/\qfc w b G W' w':=by
 have L:=boxed (Below.refl _ w) (.cells #[.pointer (some ⟨b,0,none⟩)] 44);have u:=qag.new (w:=w) (T:=44) (n:=w.heap.size) [.pointer (some ⟨b,0,none⟩)] rfl;change qag (w.alloc (.cells #[.pointer (some ⟨b,0,none⟩)] 44)) w.heap.size [.pointer (some ⟨b,0,none⟩)]at u;have D:=h.lt;have v:Hid (∀w',qae G (w.alloc (.cells #[.pointer (some ⟨b,0,none⟩)] 44)) w'->w'.cell? ⟨w.heap.size,0,none⟩=some (.pointer (some ⟨b,0,none⟩))):=λw' l=>(u.kept (l.block _ u.lt (λe=>by have:=D _ e;omega)) l.size).cell 0 _ rfl;have c9:=u.cell 0 _ rfl;have M:=qxj _ (h.later L) K Z c9 (λe=>by have:=D _ e;omega);have N4:Hid (W.n<=4):=K.n4
 have NG:Hid (¬G w.heap.size):=λe=>by have:=D _ e;omega
 have FR:Hid (∀W' w',qfc (w.alloc (.cells #[.pointer (some ⟨b,0,none⟩)] 44)) b G W' w'->qfc w b G W' w'):=λW' w' N=>qfc.from L N;obtain⟨w0,E⟩:∃w0,w.alloc (.cells #[.pointer (some ⟨b,0,none⟩)] 44)=w0:=⟨_,rfl⟩;obtain⟨cb,O⟩:∃cb,w.heap.size=cb:=⟨_,rfl⟩
 have BRX:Hid (∀g W1,WfW W1->qk8 W1->qfc w0 b G W1 g->Calls Tryz.prog 89 #[.pointer (some ⟨cb,0,none⟩)] g λe w'=>e=.returned (.tuple #[])/\∃W',Hid (qcy W1 W'/\WfW W'/\qk8 W')/\qfc w0 b G W' w'):=λg W1 h1 h2 N=>by
  obtain⟨G1,a1,a2,a3⟩:=N;have s:=a3.size;rw[<-E]at a2 a3 s ⊢;rw[<-O];refine(qxj g a1 h1 h2 (v.out g a3) (λe=>?_)).mono λe w' ⟨P,W',hB,p⟩=>⟨P,W',hB,?_⟩
  ·rcases a2 _ e with r|r
   ·exact NG.out r
   ·simp at r;omega
  ·obtain⟨G2,p1,p2,p3⟩:=p;exact⟨G2,p1,λq Q=>(p2 q Q).elim (a2 q) (λr=>.inr (by omega)),a3.more p3 a2⟩
 rw[E,O]at M c9 v;rw[E]at FR;clear h K Z D u NG;go_enter Tryz.func41,Tryz.ntmps41
 go_wp2_with fail
 refine M.mono ?_;rintro e g ⟨rfl,W1,F,p⟩;have H:Hid (qfc w0 b G W1 g):=p;obtain⟨G1,P1⟩:=H.out.get;obtain⟨pa,pc,c0,R⟩:=P1.len0;have S:W1.n=W.n:=F.out.1.keep.n;rw[S]at c0;have HN:Hid (W1.n=W.n):=S
 have x:g.cell? ⟨cb,0,none⟩=some (.pointer (some ⟨b,0,none⟩)):=by
  obtain⟨_,_,_,l⟩:=H.out;exact v.out g l
 clear M p S P1 c9 E O L
 go_wp2_with fail
 clear c0 x R
 go_loopw [13] (λiv wr=>∃(k:Nat) (z:Int) (j:WoS),k<=W.n/\z=k/\iv=.int .i64 z/\Hid (WfW j/\j.n=W.n/\qfg k W1 j/\qfc w0 b G j wr/\qk8 j)) (λiv _=>W.n-(intOf iv).toNat)
 case atStart=>exact⟨0,0,W1,by omega,rfl,rfl,F.out.2.1,HN.out,.zero,H.out,F.out.2.2⟩
 case round=>
  clear H;obtain⟨k,z,j,hk,U,rfl,d⟩:=hrel;have B:Hid (z=k):=U;by_cases hlt:k<W.n
  ·have g1:z<(W.n:Int):=by omega
   have g3:0<=z:=by omega
   have g4:z<4:=by have:=N4.out;omega
   obtain⟨G2,P2⟩:=d.out.2.2.2.1.get;obtain⟨pa2,pc2,c0,R⟩:=P2.len0;rw[d.out.2.1]at c0
   have x:wr.cell? ⟨cb,0,none⟩=some (.pointer (some ⟨b,0,none⟩)):=by
        obtain⟨_,_,_,l⟩:=d.out.2.2.2.1;exact v.out wr l
   clear U P2
   go_wp2_with fail
   clear c0 x R
   go_loopw [21] (λV wr=>∃(m:Nat) (y:Int) (c:WoS),m<=W.n/\y=m/\V=.int .i64 y/\Hid (WfW c/\c.n=W.n/\qgj k m j c/\qfc w0 b G c wr/\qk8 c)) (λV _=>W.n-(intOf V).toNat)
   case atStart=>exact⟨0,0,j,by omega,rfl,rfl,d.out.1,d.out.2.1,.zero,d.out.2.2.2.1,d.out.2.2.2.2⟩
   case round=>
        obtain⟨m,y,c,hm,I,rfl,a⟩:=hrel;have C:Hid (y=m):=I;by_cases hml:m<W.n
        ·have f1:y<(W.n:Int):=by omega
         have f3:0<=y:=by omega
         have f4:y<4:=by have:=N4.out;omega
         have x:wr.cell? ⟨cb,0,none⟩=some (.pointer (some ⟨b,0,none⟩)):=by
          obtain⟨_,_,_,l⟩:=a.out.2.2.2.1;exact v.out wr l
         by_cases X:m=k
         ·have f5:z=y:=by have:=B.out;omega
          subst f5;clear I
          go_wp2_with fail
          go_roundw
          case rel=>exact⟨m+1,z+1,c,by omega,by have:=C.out;omega,by go_num,a.out.1,a.out.2.1,.self a.out.2.2.1 X,a.out.2.2.2⟩
          case measure=>simp[intOf];have:=C.out;omega
         ·have f5:¬z=y:=by have:=B.out;omega
          have AK:Hid (Calls Tryz.prog 36 #[.pointer (some ⟨b,0,none⟩),.int .i64 z,.int .i64 y] wr λe w'=>e=.returned (.tuple #[])/\qfc w0 b G (qvm c k m) w'):=by
           obtain⟨G3,P3,s3,t3⟩:=a.out.2.2.2.1;have:=q9k wr P3 (i:=k) (o:=m) (by rw[a.out.2.1];exact hlt);rw[<-B.out,<-C.out]at this;refine this.mono λe w' ⟨P,p⟩=>⟨P,?_⟩;obtain⟨Gx,p1,p2,p3⟩:=p;have s:=t3.size;exact⟨Gx,p1,λq Q=>(p2 q Q).elim (s3 q) (λr=>.inr (by omega)),t3.more p3 s3⟩
          have Y:Hid (m≠k/\k<W.n/\m<W.n):=⟨X,hlt,hml⟩;clear I X
          go_wp2_with fail
          refine AK.out.mono ?_;rintro e w4 ⟨rfl,hP4⟩;have WA:WfW (qvm c k m):=a.out.1.send (by show m<c.n;rw[a.out.2.1];exact Y.out.2.2);have NA:qk8 (qvm c k m):=a.out.2.2.2.2.send (by show 0<=(k:Int)/\(k:Int)<(c.n:Int);rw[a.out.2.1];have:=Y.out.2.1;omega);have BR2:Hid (Calls Tryz.prog 89 #[.pointer (some ⟨cb,0,none⟩)] w4 λe w'=>e=.returned (.tuple #[])/\∃W',Hid (qcy (qvm c k m) W'/\WfW W'/\qk8 W')/\qfc w0 b G W' w'):=BRX.out w4 _ WA NA hP4;clear AK WA NA hP4 x
          go_wp2_with fail
          refine BR2.out.mono ?_;rintro e w5 ⟨rfl,W5,J,hP5⟩
          go_wp2_with fail
          go_roundw
          case rel=>exact⟨m+1,y+1,W5,by omega,by have:=C.out;omega,by go_num,J.out.2.1,(J.out.1.keep.n.trans (qbk _ _).n).trans a.out.2.1,.ask a.out.2.2.1 Y.out.1 J.out.1,hP5,J.out.2.2⟩
          case measure=>simp[intOf];have:=C.out;omega
        ·have f1:¬y<(W.n:Int):=by omega
         have e:m=W.n:=by omega
         clear I
         go_wp2_with fail
         go_roundw
         case rel=>exact⟨k+1,z+1,c,by omega,by have:=B.out;omega,by go_num,a.out.1,a.out.2.1,.next d.out.2.2.1 (by rw[d.out.2.1,<-e];exact a.out.2.2.1),a.out.2.2.2⟩
         case measure=>simp[intOf];have:=B.out;omega
  ·have g1:¬z<(W.n:Int):=by omega
   have e:k=W.n:=by omega
   clear U
   go_wp2_with fail
   go_end0;exact⟨rfl,j,⟨⟨W1,F.out.1,by rw[HN.out,<-e];exact d.out.2.2.1⟩,d.out.1,d.out.2.2.2.2⟩,FR.out _ _ d.out.2.2.2.1⟩
end
section
open Go.Value Go.IntKind Go.RowKit
theorem qlz (x a s:Int):qa6 (qa6 x a) s=qa6 (qa6 x s) a:=by unfold qa6;repeat' split<;>omega
def dwV (W:WoS) (k j:Nat):V4:=⟨qa6 (swV W k j).v0 (W.S k).a0,qa6 (swV W k j).v1 (W.S k).a1,qa6 (swV W k j).v2 (W.S k).a2,qa6 (swV W k j).v3 (W.S k).a3⟩
variable {W:WoS} {k j:Nat}
theorem jad (h:W.at_ j=k/\(W.ses j).opn=true):dwV W k (j+1)=⟨qa6 (dwV W k j).v0 (W.ses j).s0,qa6 (dwV W k j).v1 (W.ses j).s1,qa6 (dwV W k j).v2 (W.ses j).s2,qa6 (dwV W k j).v3 (W.ses j).s3⟩:=by
 have e:swV W k (j+1)=⟨qa6 (swV W k j).v0 (W.ses j).s0,qa6 (swV W k j).v1 (W.ses j).s1,qa6 (swV W k j).v2 (W.ses j).s2,qa6 (swV W k j).v3 (W.ses j).s3⟩:=if_pos h;unfold dwV;rw[e,qlz,qlz _ (W.S k).a1,qlz _ (W.S k).a2,qlz _ (W.S k).a3]
theorem q9o (h:¬(W.at_ j=k/\(W.ses j).opn=true)):dwV W k (j+1)=dwV W k j:=by
 have e:swV W k (j+1)=swV W k j:=if_neg h;unfold dwV;rw[e]
noncomputable def ja1:Code:=((Tryz.f40.body.bind (qc8 1)).getD .skip)
theorem qwe {b:Nat} {M:RoM} {Gs:Nat->Nat->Prop} {i:Nat} {u v y5 x y z B C D E F G y15 y16 y17 y18 y19 y20 y21 y22 y23 y24 y25 y26 H I J K L N O P Q U X Y Z aa ab ac ad ae af ag ah ai aj ak al am an ao ap aq ar au av aw ax ay az:Value} (w:World) (h:RWo w b M W Gs) (hi:i<W.n) (R:Act->World->Prop)
 (hR:∀(u15 u16 u17 u18 u19 u20 u21 u22 u23 u24 u25 u26:Value) (c:Nat) (d:World),qag d c (v4C (dwV W i 0))->Below w.heap.size w d->w.heap.size<=c->R ⟨List.toArray ((.pointer (some ⟨b,0,none⟩))::(int i64 i)::u::v::(.pointer (some ⟨M.bp i,0,none⟩))::(.pointer (some ⟨c,0,none⟩))::x::y::z::B::C::D::E::F::G::u15::u16::u17::u18::u19::u20::u21::u22::u23::u24::u25::u26::H::I::J::K::L::N::O::P::Q::U::X::Y::Z::aa::ab::ac::ad::ae::af::ag::ah::ai::aj::ak::al::am::an::ao::ap::aq::ar::au::av::aw::ax::ay::az::[]),[]⟩ d):
 Code.wp Tryz.prog ja1 (Exit.then R (λ_ _ _=>False)) ⟨List.toArray ((.pointer (some ⟨b,0,none⟩))::(int i64 i)::u::v::(.pointer (some ⟨M.bp i,0,none⟩))::y5::x::y::z::B::C::D::E::F::G::y15::y16::y17::y18::y19::y20::y21::y22::y23::y24::y25::y26::H::I::J::K::L::N::O::P::Q::U::X::Y::Z::aa::ab::ac::ad::ae::af::ag::ah::ai::aj::ak::al::am::an::ao::ap::aq::ar::au::av::aw::ax::ay::az::[]),[]⟩ w:=by
 have HR:Hid _:=hR;clear hR;obtain⟨g,cap,c0,hcap,hg,hc⟩:=h.sitesAt hi;obtain⟨V,q⟩:∃V,qap (W.S i) (qdo W.n)=V:=⟨_,rfl⟩
 have ST:Hid (∀w',Below w.heap.size w w'->Calls Tryz.prog 87 #[.pointer (some ⟨M.bp i,0,none⟩),int i64 W.n] w' λe w''=>e=.returned (.agg #[int i64 V.v0,int i64 V.v1,int i64 V.v2,int i64 V.v3])/\Below w'.heap.size w' w''):=λw' hb=>by
  have:=qv0 (W.n:Int) w' ((h.later hb).site hi);rw[q]at this;exact this
 have HV:Hid (∀d c,qag d c (v4C ⟨qa6 V.v0 (W.S i).a0,qa6 V.v1 (W.S i).a1,qa6 V.v2 (W.S i).a2,qa6 V.v3 (W.S i).a3⟩)->qag d c (v4C (dwV W i 0))):=λd c hr=>by
  have:dwV W i 0=⟨qa6 V.v0 (W.S i).a0,qa6 V.v1 (W.S i).a1,qa6 V.v2 (W.S i).a2,qa6 V.v3 (W.S i).a3⟩:=by
   show (⟨qa6 (qap (W.S i) (qdo W.n)).v0 _,_,_,_⟩:V4)=_;rw[<-q];rfl
  rw[this];exact hr
 have HA:Hid (∀w',Below w.heap.size w w'->w'.cell? ⟨M.bp i,1,none⟩=some (int i64 (W.S i).a0)/\w'.cell? ⟨M.bp i,2,none⟩=some (int i64 (W.S i).a1)/\w'.cell? ⟨M.bp i,3,none⟩=some (int i64 (W.S i).a2)/\w'.cell? ⟨M.bp i,4,none⟩=some (int i64 (W.S i).a3)/\M.bp i<w'.heap.size):=λw' hb=>((h.later hb).site hi).applied;obtain⟨a0,a1,a2,a3,hbl⟩:=(h.site hi).applied;have hlt:=h.box.lt;clear h hc q
 conv=>arg 2;whnf
 go_region_law (first
  |(refine qcn rfl 87 rfl #[.pointer (some ⟨M.bp i,0,none⟩),int i64 W.n] (by go_simp) (ST.out w.drew (Below.refl _ w).drew) ?_
    rintro e w2 ⟨rfl,p⟩;refine⟨_,rfl,?_⟩;have l:=qab (Below.refl _ w).drew p
    obtain⟨d0,d1,d2,d3,dl⟩:=HA.out w2 l)
  |(refine qcn rfl 87 rfl #[.pointer (some ⟨M.bp i,0,none⟩),int i64 W.n] (by go_simp) (ST.out (w.drew.alloc (.cells #[int i64 0,int i64 0,int i64 0,int i64 0] 77)) (boxed (Below.refl _ w).drew (.cells #[int i64 0,int i64 0,int i64 0,int i64 0] 77))) ?_
    rintro e w2 ⟨rfl,p⟩;refine⟨_,rfl,?_⟩;have l:=qab (boxed (Below.refl _ w).drew (.cells #[int i64 0,int i64 0,int i64 0,int i64 0] 77)) p;have RX:=(qag.new (w:=w.drew) (T:=77) (n:=w.heap.size) [int i64 0,int i64 0,int i64 0,int i64 0] rfl).later p
    obtain⟨d0,d1,d2,d3,dl⟩:=HA.out w2 l)
  |(refine qcn rfl 86 rfl #[.agg #[int i64 V.v0,int i64 V.v1,int i64 V.v2,int i64 V.v3],.agg #[int i64 ((W.S i).a0),int i64 ((W.S i).a1),int i64 ((W.S i).a2),int i64 ((W.S i).a3)]] (by go_simp) (qhz _ _ _ _ _ _ _ _ w2) ?_
    rintro e r ⟨rfl,m⟩;refine⟨_,rfl,?_⟩;have a:=RX.later m;have o:=qab l m;have s:w.heap.size<=w.heap.size:=Nat.le_refl _;obtain⟨f0,f1,f2,f3⟩:=a.f4;have y_0:=a.cell 0 _ rfl;have y_1:=a.cell 1 _ rfl;have y_2:=a.cell 2 _ rfl
    have y_3:=a.cell 3 _ rfl)
  |(refine qcn rfl 86 rfl #[.agg #[int i64 V.v0,int i64 V.v1,int i64 V.v2,int i64 V.v3],.agg #[int i64 ((W.S i).a0),int i64 ((W.S i).a1),int i64 ((W.S i).a2),int i64 ((W.S i).a3)]] (by go_simp) (qhz _ _ _ _ _ _ _ _ w2) ?_
    rintro e r ⟨rfl,m⟩;refine⟨_,rfl,?_⟩
    have o:=qab l m)
  |(refine qcn rfl 86 rfl #[.agg #[int i64 V.v0,int i64 V.v1,int i64 V.v2,int i64 V.v3],.agg #[int i64 ((W.S i).a0),int i64 ((W.S i).a1),int i64 ((W.S i).a2),int i64 ((W.S i).a3)]] (by go_simp) (qhz _ _ _ _ _ _ _ _ (w2.alloc (.cells #[int i64 0,int i64 0,int i64 0,int i64 0] 77))) ?_
    rintro e r ⟨rfl,m⟩;refine⟨_,rfl,?_⟩;have a:=(qag.new (w:=w2) (T:=77) (n:=w2.heap.size) [int i64 0,int i64 0,int i64 0,int i64 0] rfl).later m;have o:=qab (boxed l (.cells #[int i64 0,int i64 0,int i64 0,int i64 0] 77)) m;have s:w.heap.size<=w2.heap.size:=l.size;obtain⟨f0,f1,f2,f3⟩:=a.f4;have y_0:=a.cell 0 _ rfl;have y_1:=a.cell 1 _ rfl;have y_2:=a.cell 2 _ rfl
    have y_3:=a.cell 3 _ rfl))
 all_goals
  first
   |(go_simp
     refine HR.out _ _ _ _ _ _ _ _ _ _ _ _ _ _ (HV.out _ _ (qo8 a _ _ _ _)) (qge o s _ _ _ _) s)
   |(go_simp
     exact HR.out _ _ _ _ _ _ _ _ _ _ _ _ _ _ (HV.out _ _ (qag.new (w:=r) (T:=77) (v4C ⟨qa6 V.v0 (W.S i).a0,qa6 V.v1 (W.S i).a1,qa6 V.v2 (W.S i).a2,qa6 V.v3 (W.S i).a3⟩) rfl)) (boxed o _) o.size)
end
section
open Go.Value Go.IntKind Go.RowKit
variable {G:Nat->Prop}
section
variable {w:World} {b:Nat} {M:RoM} {W:WoS} {Gs:Nat->Nat->Prop}
theorem RWo.clientsAt (h:RWo w b M W Gs):∃a e d f,w.cell? ⟨b,2,none⟩=some (.slice a W.c e)/\W.c<=e/\w.cell? ⟨b,3,none⟩=some (.slice d W.c f)/\W.c<=f/\(0<W.c->∃g g',a=some ⟨g,0,none⟩/\d=some ⟨g',0,none⟩/\g<w.heap.size/\g'<w.heap.size/\∀j,j<W.c->w.cell? ⟨g,j,none⟩=some (.pointer (some ⟨M.bs j,0,none⟩))/\w.cell? ⟨g',j,none⟩=some (int i64 (W.at_ j))):=by
 obtain⟨a,e,n,r⟩:=qai h.cr;obtain⟨d,f,o,i⟩:=qai h.ar;have k:=h.box.cell 2 _ rfl;have l:=h.box.cell 3 _ rfl;rw[n]at k;rw[o]at l;refine⟨a,e,d,f,k,r.len,l,i.len,λv=>?_⟩;rcases r.held with q|⟨g,rfl,p,s⟩
 ·omega
 ·rcases i.held with q|⟨g',rfl,t,u⟩
  ·omega
  ·exact⟨g,g',rfl,rfl,p,t,λj m=>⟨s j _ (qr9 m),u j _ (qkz m)⟩⟩
theorem RSe.snap {s:qbn} (h:RSe w b G s):w.cell? ⟨b,4,none⟩=some (int i64 s.s0)/\w.cell? ⟨b,5,none⟩=some (int i64 s.s1)/\w.cell? ⟨b,6,none⟩=some (int i64 s.s2)/\w.cell? ⟨b,7,none⟩=some (int i64 s.s3)/\w.cell? ⟨b,8,none⟩=some (.bool s.opn)/\b<w.heap.size:=by
 obtain⟨wv,h,_⟩:=h;exact⟨h.box.cell 4 _ rfl,h.box.cell 5 _ rfl,h.box.cell 6 _ rfl,h.box.cell 7 _ rfl,h.box.cell 8 _ rfl,h.box.lt⟩
end
theorem q8f {b:Nat} {W:WoS} (w:World) (h:RW w b G W) (C:WfW W) {i:Nat} (hi:i<W.n):
 Calls Tryz.prog 40 #[.pointer (some ⟨b,0,none⟩),int i64 i] w λe w'=>e=.returned (.tuple #[])/\qfc w b G (qsy W i) w':=by
 obtain⟨M,Gs,h,O⟩:=h;have d:Hid (RWo w b M W Gs/\(∀k,G k↔qmp b M (W.n+W.c) Gs k)/\WfW W/\i<W.n):=⟨h,O,C,hi⟩;obtain⟨g,cap,c0,hcap,hg,P⟩:=h.sitesAt hi;have c1:=P i hi;have Q:=h.box.lt
 have q1:(i:Int)<(W.n:Int):=by omega
 have HC6:Hid _:=C.c6;obtain⟨R,cca,T,dda,U,hcl,D,hdl,p⟩:=h.clientsAt;have E:Hid (w.cell? ⟨b,2,none⟩=some (.slice R W.c cca)/\w.cell? ⟨b,3,none⟩=some (.slice T W.c dda)/\(0<W.c->∃g g',R=some ⟨g,0,none⟩/\T=some ⟨g',0,none⟩/\g<w.heap.size/\g'<w.heap.size/\∀j,j<W.c->w.cell? ⟨g,j,none⟩=some (.pointer (some ⟨M.bs j,0,none⟩))/\w.cell? ⟨g',j,none⟩=some (int i64 (W.at_ j)))):=⟨U,D,p⟩;clear h O C P U D p hi;go_enter Tryz.func40,Tryz.ntmps40
 go_wp2_with fail
 refine qmv (qwe w d.out.1 d.out.2.2.2 _ ?_);rintro u15 u16 u17 u18 u19 u20 u21 u22 u23 u24 u25 u26 x H V y X;have I:Hid (qag H x (v4C (dwV W i 0))/\Below w.heap.size w H/\w.heap.size<=x):=⟨V,y,X⟩;have c2:=cell_later y E.out.1;have hlt4:b<H.heap.size:=Nat.lt_of_lt_of_le Q y.size;clear V y X c0 c1
 go_wp2_with fail
 clear c2
 go_loopw [32] (λiv wr=>∃(j:Nat) (z:Int),j<=W.c/\z=j/\iv=int i64 z/\Hid (qag wr x (v4C (dwV W i j))/\Below w.heap.size w wr)) (λiv _=>W.c-(intOf iv).toNat)
 case atStart=>exact⟨0,0,by omega,rfl,rfl,I.out.1,I.out.2.1⟩
 case round=>
  obtain⟨j,z,hj,J,rfl,a⟩:=hrel;have r:Hid _:=J;by_cases K:j<W.c
  ·have g1:z<(W.c:Int):=by omega
   have g2:z.toNat=j:=by omega
   have g3:0<=z:=by omega
   have g4:z<6:=by have:=HC6.out;omega
   clear J;obtain⟨cg,cg',hca,hda,hcg,hcg',p⟩:=E.out.2.2 (by omega);subst hca;subst hda;have x0:=cell_later a.out.2 (p j K).1;have Y:=cell_later a.out.2 (p j K).2;obtain⟨s,L⟩:∃s:Int,(W.at_ j:Int)=s:=⟨_,rfl⟩
   have x1:wr.cell? ⟨cg',j,none⟩=some (int i64 s):=by rw[<-L];exact Y
   have Z:Hid _:=L;have D:=cell_later a.out.2 E.out.2.1;have ltr:b<wr.heap.size:=Nat.lt_of_lt_of_le Q a.out.2.size;obtain⟨s0,s1,s2,s3,so,sl⟩:=((d.out.1.later a.out.2).sess K).snap;clear L Y p;cases ho:(W.ses j).opn
   ·have t:Hid (dwV W i (j+1)=dwV W i j):=q9o (λq=>by rw[ho]at q;cases q.2);rw[ho]at so;clear ho
    go_wp2_with fail
    go_roundw
    case rel=>exact⟨j+1,z+1,by omega,by have:=r.out;omega,by go_num,by rw[t.out];exact a.out.1,a.out.2⟩
    case measure=>simp[intOf];have:=r.out;omega
   ·rw[ho]at so;by_cases B:s=(i:Int)
    ·subst B;have t:Hid (dwV W i (j+1)=⟨qa6 (dwV W i j).v0 (W.ses j).s0,qa6 (dwV W i j).v1 (W.ses j).s1,qa6 (dwV W i j).v2 (W.ses j).s2,qa6 (dwV W i j).v3 (W.ses j).s3⟩):=jad ⟨by have:=Z.out;omega,ho⟩;obtain⟨v,m⟩:∃v,dwV W i j=v:=⟨_,rfl⟩;rw[m]at t
     have o:qag wr x [int i64 v.v0,int i64 v.v1,int i64 v.v2,int i64 v.v3]:=by have:=a.out.1;rw[m]at this;exact this
     have HF:Hid _:=o;obtain⟨a0,a1,a2,a3⟩:=o.c4;have lv:=o.lt;have MI:Hid (∀w',Calls Tryz.prog 86 #[.agg #[int i64 v.v0,int i64 v.v1,int i64 v.v2,int i64 v.v3],.agg #[int i64 (W.ses j).s0,int i64 (W.ses j).s1,int i64 (W.ses j).s2,int i64 (W.ses j).s3]] w' λe w''=>e=.returned (.agg #[int i64 (qa6 v.v0 (W.ses j).s0),int i64 (qa6 v.v1 (W.ses j).s1),int i64 (qa6 v.v2 (W.ses j).s2),int i64 (qa6 v.v3 (W.ses j).s3)])/\Below w'.heap.size w' w''):=λw'=>qhz _ _ _ _ _ _ _ _ w';clear ho o m
     go_wp2_with fail
     go_region_law (refine qcn rfl 86 rfl #[.agg #[int i64 v.v0,int i64 v.v1,int i64 v.v2,int i64 v.v3],.agg #[int i64 (W.ses j).s0,int i64 (W.ses j).s1,int i64 (W.ses j).s2,int i64 (W.ses j).s3]] (by go_simp) (MI.out wr.drew) ?_
                    rintro e w7 ⟨rfl,hb7⟩;refine⟨_,rfl,?_⟩;have hb57:=qab (Below.refl _ wr).drew hb7;have u:=HF.out.later hb57;obtain⟨d0,d1,d2,d3⟩:=u.c4;have f0:=u.free 0 (by simp);have f1:=u.free 1 (by simp);have f2:=u.free 2 (by simp)
                    have f3:=u.free 3 (by simp))
     all_goals
       go_wp2_with fail
       go_roundw
       case rel=>exact⟨j+1,z+1,by omega,by have:=r.out;omega,by go_num,by rw[t.out];exact qo8 u _ _ _ _,qge (qab a.out.2 hb57) I.out.2.2 _ _ _ _⟩
       case measure=>simp[intOf];have:=r.out;omega
    ·have t:Hid (dwV W i (j+1)=dwV W i j):=q9o (λq=>B (by have:=Z.out;have:=q.1;omega))
     have hq1:(s==(i:Int))=false:=by simp[B]
     have hq2:decide (s=(i:Int))=false:=decide_eq_false B;clear ho
     go_wp2_with fail
     go_roundw
     case rel=>exact⟨j+1,z+1,by omega,by have:=r.out;omega,by go_num,by rw[t.out];exact a.out.1,a.out.2⟩
     case measure=>simp[intOf];have:=r.out;omega
  ·have g1:¬z<(W.c:Int):=by omega
   have e:j=W.c:=by omega
   subst e;have R9:=a.out.1;have N:Hid (RWo wr.drew b M W Gs/\Below w.heap.size w wr.drew):=⟨d.out.1.later a.out.2.drew,a.out.2.drew⟩;obtain⟨v,m⟩:∃v,dwV W i W.c=v:=⟨_,rfl⟩
   have o:qag wr x [int i64 v.v0,int i64 v.v1,int i64 v.v2,int i64 v.v3]:=by have:=a.out.1;rw[m]at this;exact this
   have SW:Hid (Calls Tryz.prog 88 #[.pointer (some ⟨M.bp i,9,none⟩),.agg #[int i64 v.v0,int i64 v.v1,int i64 v.v2,int i64 v.v3]] wr.drew λe w'=>e=.returned (.tuple #[])/\RPo wr.drew (M.bp i) (Gs i) (M.F i) {W.S i with l:=qfr v.v0 v.v1 v.v2 v.v3 (W.S i).l} w'):=q0t v.v0 v.v1 v.v2 v.v3 wr.drew (N.out.1.site d.out.2.2.2) (d.out.2.2.1.inv i d.out.2.2.2)
   have HW:Hid (qsy W i=setSite W i {W.S i with l:=qfr v.v0 v.v1 v.v2 v.v3 (W.S i).l}):=by show _=_;rw[<-m];rfl
   obtain⟨z0,z1,z2,z3⟩:=o.c4;clear J R9 o m
   go_wp2_with fail
   go_region_law (refine qcn rfl 88 rfl #[.pointer (some ⟨M.bp i,9,none⟩),.agg #[int i64 v.v0,int i64 v.v1,int i64 v.v2,int i64 v.v3]] (by go_simp) SW.out ?_
                  rintro e w8 ⟨rfl,hp⟩
                  refine⟨_,rfl,?_⟩)
   all_goals
        go_wp2_with fail
        go_end0;refine⟨rfl,?_⟩;rw[HW.out];exact qfc.from N.out.2 (N.out.1.stepS d.out.2.1 d.out.2.2.2 hp)
end
section
open Go.Value Go.IntKind Go.RowKit
section
variable {w w' wA wB:World} {b i:Nat} {M:RoM} {W:WoS} {Gs:Nat->Nat->Prop}
theorem RWo.kept (h:RWo w b M W Gs) (f:∀k,qmp b M (W.n+W.c) Gs k->w'.heap[k]?=w.heap[k]?) (hs:w.heap.size<=w'.heap.size):RWo w' b M W Gs:=by
 have g:∀k,qak b M k->w'.heap[k]?=w.heap[k]?:=λk q=>f k (.inl q)
 have a:∀{x:Option Nat},x∈qeq b M->∀k,x=some k->w'.heap[k]?=w.heap[k]?:=λd k e=>by rw[e]at d;exact g k d
 refine⟨h.box.kept (g b (by simp[qak,qeq])) hs,qad h.sr (a (by simp[qeq])),qad h.wr (a (by simp[qeq])),qad h.cr (a (by simp[qeq])),qad h.ar (a (by simp[qeq])),qad h.yr (a (by simp[qeq])),h.nl,λx d=>(h.gr x d).to (λi k o hi e=>?_),h.fam.to (λj k l e=>f k (.inr ⟨j,l,e⟩)) hs (λk e=>⟨.inl e,Nat.lt_of_lt_of_le (h.ltF k e) hs⟩),h.ap⟩;have:=(h.site hi).frozen e;exact⟨e,this,(f k (.inr ⟨i,by omega,(h.site hi).frozenG e⟩)).trans this⟩
theorem RWo.com (h:RWo w b M W Gs) (hi:i<W.c) (r:W.at_ i<W.n) {S':qaf} {a:qbn} {F':Nat->Option Obj} {Y:Nat->Prop} (s:∀k o,M.F (W.at_ i) k=some o->F' k=some o) (t:qki (qu3 (M.bs i) a) (qip (M.bp (W.at_ i)) F' S') w (Gs (W.n+i)) (Gs (W.at_ i)) Y w'):
 ∃d,RWo w' b {M with F:=qcg M.F (W.at_ i) F'} (qb1 (setSite W (W.at_ i) S') i a) d/\(∀m k,d m k->Gs m k\/w.heap.size<=k)/\qae (λk=>Gs (W.n+i) k\/Gs (W.at_ i) k) w w':=by
 obtain⟨u,v,p1,x,p2,y,z,_,l⟩:=t
 obtain⟨d,f,g,kp,l⟩:=h.fam.step2G (ps':=qfv {M with F:=qcg M.F (W.at_ i) F'} (qb1 (setSite W (W.at_ i) S') i a)) (i:=W.n+i) (j:=W.at_ i) (by omega) (by omega) ⟨u,v,p1,x,p2,y,z,λ_ e=>e.elim,l⟩ (by
  show (if W.n+i<W.n then _ else _)=_;rw[if_neg (by omega)];show qu3 (M.bs (W.n+i-W.n)) (qcg W.ses i a (W.n+i-W.n))=_
  rw[show W.n+i-W.n=i by omega,qam]) (by
  show (if W.at_ i<W.n then qip (M.bp (W.at_ i)) (qcg M.F (W.at_ i) F' (W.at_ i)) (qcg W.S (W.at_ i) S' (W.at_ i))else _)=_
  rw[if_pos r,qam,qam]) (λm A B p=>by
  show (if m<W.n then qip (M.bp m) (qcg M.F (W.at_ i) F' m) (qcg W.S (W.at_ i) S' m)else qu3 (M.bs (m-W.n)) (qcg W.ses i a (m-W.n)))=(if m<W.n then _ else _);by_cases q:m<W.n
  ·rw[if_pos q,if_pos q,qby _ _ p,qby _ _ p]
  ·rw[if_neg q,if_neg q,qby _ _ (by omega)])
 refine⟨d,h.keep kp f (λj k o C e=>?_) rfl rfl rfl rfl rfl rfl,g,l⟩;by_cases q:j=W.at_ i
 ·subst q;rw[qam];exact s k o e
 ·rw[qby _ _ q];exact e
end
def qnu (wA:World) (b:Nat) (M:RoM) (W:WoS) (Gs:Nat->Nat->Prop) (i:Nat) (m:TxM) (ce:Int) (wB:World):Prop:=
 ce=wcE W i/\m.t=wcT W i/\qaz wB m.wa m.wc m.t.ws/\∃F' Gs',RWo wB b {M with F:=qcg M.F (W.at_ i) F'} (qkv W i) Gs'/\(∀j k,Gs' j k->Gs j k\/wA.heap.size<=k)/\qae (λk=>Gs (W.n+i) k\/Gs (W.at_ i) k) wA wB/\∀k,m.blk k->∃o,F' k=some o
def jeo (w:World) (b:Nat) (M:RoM) (W:WoS) (Gs:Nat->Nat->Prop) (i:Nat) (m:TxM) (ce:Int) (mb:Nat) (wC:World):Prop:=qag wC mb (txC m)/\w.heap.size<=mb/\qnu w b M W Gs i m ce wC
section
variable {w wA wB wC:World} {b i:Nat} {M:RoM} {W:WoS} {Gs:Nat->Nat->Prop} {m:TxM} {ce:Int}
theorem qnu.lie (a:RWo w b M W Gs) (hi:i<W.c) (d:W.at_ i<W.n) {k:Nat} (f:w.heap.size<=k):¬(Gs (W.n+i) k\/Gs (W.at_ i) k):=λe=>by
 have:k<w.heap.size:=e.elim (λq=>a.ltG (by omega) q) (λq=>a.ltG (by omega) q);omega
theorem qnu.box (h:qnu wA b M W Gs i m ce wB) (e:RWo w b M W Gs) (hi:i<W.c) (f:W.at_ i<W.n) {l:List Value} (a:qag wA w.heap.size l):qag wB w.heap.size l:=by
 obtain⟨_,_,_,_,_,_,_,d,_⟩:=h;exact a.kept (d.block _ a.lt (qnu.lie e hi f (Nat.le_refl _))) d.size
theorem qnu.to (h:qnu wA b M W Gs i m ce wB) (d:RWo w b M W Gs) (f:W.at_ i<W.n) (g:Below w.heap.size w wA) (l:∀k,(k<w.heap.size\/wA.heap.size<=k)->k<wB.heap.size->wC.heap[k]?=wB.heap[k]?) (p:qae (λk=>w.heap.size<=k) wB wC):qnu w b M W Gs i m ce wC:=by
 obtain⟨y,z,A,F',r,a,t,B,u⟩:=h
 have C:∀k,qmp b {M with F:=qcg M.F (W.at_ i) F'} ((qkv W i).n+(qkv W i).c) r k->wC.heap[k]?=wB.heap[k]?:=λk e=>by
  rcases e with e|⟨j,v,e⟩
  ·exact l k (.inl (d.ltF k e)) (a.ltF k e)
  ·exact l k ((t j k e).imp (λq=>d.ltG v q) id) (a.ltG v e)
 have R:=a.kept C p.size;have s:=g.size;refine⟨y,z,?_,F',r,R,λj k e=>(t j k e).imp id (λq=>by omega),((qae.ofBelow g).trans B).more p (λk q=>.inr q),u⟩;refine A.kept (m:=m) (λk e=>?_);obtain⟨o,x⟩:=u k e;have D:=(R.site (i:=W.at_ i) f).frozen (o:=o) (k:=k) (by show qcg M.F (W.at_ i) F' (W.at_ i) k=_;rw[qam];exact x);have E:=(a.site (i:=W.at_ i) f).frozen (o:=o) (k:=k) (by show qcg M.F (W.at_ i) F' (W.at_ i) k=_;rw[qam];exact x);exact D.trans E.symm
end
variable {X:Nat->Prop} {w w':World}
theorem qw9 (c:∀k,X k->k<w.heap.size) (h:qba X w w') (o:Obj):qba X w (w'.alloc o):=
 have b:=boxed (Below.refl w'.heap.size w') o
 ⟨b.os.trans h.os,b.tape.trans h.tape,b.output.trans h.output,Nat.le_trans h.size b.size,λk a=>(b.block k (Nat.lt_of_lt_of_le (c k a) h.size)).trans (h.block k a)⟩
theorem qbx (h:qba X w w'):qba X w w'.drew:=
 have b:=(Below.refl w'.heap.size w').drew
 ⟨b.os.trans h.os,b.tape.trans h.tape,b.output.trans h.output,Nat.le_trans h.size b.size,h.block⟩
theorem qzx (c:∀k,X k->k<w.heap.size) (h:qba X w w') {g j:Nat} (d:w.heap.size<=g) (u:Value):qba X w (w'.setCell ⟨g,j,none⟩ u):=
 ⟨h.os,h.tape,h.output,by simpa[World.setCell]using h.size,λk a=>(Below.heap_setCell _ _ _ _ (λe=>by have:=c k a;simp only at e;omega)).trans (h.block k a)⟩
variable {b i:Nat} {M:RoM} {W:WoS} {Gs:Nat->Nat->Prop}
theorem qnu.keeps {wA wB:World} {m:TxM} {ce:Int} (h:qnu wA b M W Gs i m ce wB) (g:RWo w b M W Gs) (hi:i<W.c) (l:W.at_ i<W.n) (a:Below w.heap.size w wA):qba (qak b M) w wB:=by
 obtain⟨_,_,_,_,_,_,_,d,_⟩:=h;have s:=a.size;refine⟨d.os.trans a.os,d.tape.trans a.tape,d.output.trans a.output,Nat.le_trans s d.size,λk j=>?_⟩;have f:=g.fam.free k j;exact(d.block k (by omega) (λe=>e.elim (f.2 _ (by omega)) (f.2 _ (by omega)))).trans (a.block k f.1)
noncomputable def jd9:Code:=((Tryz.f34.body.bind (qc8 2)).getD .skip)
theorem q29 {N O P Q y7 y8 S U V Y Z aa ab ac y17 y18 y19 y20 y21 y22 y23 y24 y25 y26 y27 y28 y29 y30 y31 y32 y33 y34 y35 y36 y37 y38 y39 y40 y41 ad ae af ag ah ai aj ak al am an ao ap aq ar au av aw ax ay az aA aB aC aD aE:Value} (w:World) (h:RWo w b M W Gs) (J:WfW W) (hi:i<W.c) (hp:0<=(W.ses i).p0) (R:Act->World->Prop)
 (hR:∀(u17 u18 u19 u20 u21 u22 u23 u24 u25 u26 u27 u28 u29 u30 u31 u32 u33 u34 u35 u36 u37 u38 u39 u40 u41:Value) (o p q r s v x y:Int) (z:List Wr) (B:Option Addr) (C:Nat) (ce:Int) (mb:Nat) (wc:World),jeo w b M W Gs i (⟨⟨o,p,q,r,s,v,x,y,z⟩,B,C⟩:TxM) ce mb wc->R ⟨List.toArray ((.pointer (some ⟨b,0,none⟩))::(int i64 i)::N::O::P::Q::(int i64 (W.at_ i))::(.pointer (some ⟨mb,0,none⟩))::(int i64 ce)::S::U::V::Y::Z::aa::ab::ac::u17::u18::u19::u20::u21::u22::u23::u24::u25::u26::u27::u28::u29::u30::u31::u32::u33::u34::u35::u36::u37::u38::u39::u40::u41::ad::ae::af::ag::ah::ai::aj::ak::al::am::an::ao::ap::aq::ar::au::av::aw::ax::ay::az::aA::aB::aC::aD::aE::[]),[]⟩ wc):
 Code.wp Tryz.prog jd9 (Exit.then R (λ_ _ _=>False)) ⟨List.toArray ((.pointer (some ⟨b,0,none⟩))::(int i64 i)::N::O::P::Q::(int i64 (W.at_ i))::y7::y8::S::U::V::Y::Z::aa::ab::ac::y17::y18::y19::y20::y21::y22::y23::y24::y25::y26::y27::y28::y29::y30::y31::y32::y33::y34::y35::y36::y37::y38::y39::y40::y41::ad::ae::af::ag::ah::ai::aj::ak::al::am::an::ao::ap::aq::ar::au::av::aw::ax::ay::az::aA::aB::aC::aD::aE::[]),[]⟩ w:=by
 have HR:Hid _:=hR;clear hR;have D:=J.at_ i hi
 have CM:Hid (∀wA,Below w.heap.size w wA->Calls Tryz.prog 81 #[.pointer (some ⟨M.bs i,0,none⟩),.pointer (some ⟨M.bp (W.at_ i),0,none⟩),int i64 (W.wall (W.at_ i))] wA λe wB=>∃(o p q r s v x y:Int) (z:List Wr) (B:Option Addr) (C:Nat) (ce:Int),e=.returned (.tuple #[.agg #[int i64 o,int i64 p,int i64 q,int i64 r,int i64 s,int i64 v,int i64 x,int i64 y,.slice B z.length C],int i64 ce])/\Hid (qnu wA b M W Gs i (⟨⟨o,p,q,r,s,v,x,y,z⟩,B,C⟩:TxM) ce wB)):=λwA hA=>by
  have G:=h.later hA;refine(qno (W.wall (W.at_ i)) wA (G.sess hi) (G.site D) (J.inv _ D) (λk e1 e2=>G.fam.apart _ _ k (by omega) (by omega) (by omega) e1 e2) hp).mono λe wB ⟨⟨⟨o,p,q,r,s,v,x,y,z⟩,B,C⟩,he,hm,hh⟩=>⟨o,p,q,r,s,v,x,y,z,B,C,_,he,rfl,hm,hh.out.1,?_⟩;obtain⟨F',hFE,hl⟩:=hh.out.2;obtain⟨Gs',r1,r2,r3⟩:=G.com hi D hFE.1 hl;exact⟨F',Gs',r1,r2,r3,hFE.2⟩
 have d:Hid (RWo w b M W Gs/\i<W.c/\W.at_ i<W.n):=⟨h,hi,D⟩;obtain⟨g,cap,c0,hcap,hg,hc⟩:=h.sitesAt D;have c0':=hc _ D;obtain⟨ca,cca,da,dda,c2,hcl,c3,hdl,H⟩:=h.clientsAt;obtain⟨K,cg',rfl,rfl,hcg,hcg',H⟩:=H (by omega);have c2':=(H i hi).1;obtain⟨wv,wcp,hwv,wr⟩:=qai h.wr
 obtain⟨L,rfl,hwg,hwc⟩:∃g,wv=some ⟨g,0,none⟩/\g<w.heap.size/\∀j u,(qh5 W.wall W.n)[j]?=some u->w.cell? ⟨g,j,none⟩=some u:=by
  rcases wr.held with h0|h0
  ·omega
  ·exact h0
 have c1:=h.box.cell 1 _ rfl;rw[hwv]at c1;have c1':=hwc _ _ (qkz D);have hwl:=wr.len;have hlt:=h.box.lt
 have q1:(i:Int)<(W.c:Int):=by omega
 have q2:(W.at_ i:Int)<(W.n:Int):=by omega
 have FL:∀k,qak b M k->k<w.heap.size:=h.ltF
 have fb:qak b M b:=by simp[qak,qeq]
 have fs:qak b M g:=by have:=h.box.cell 0 _ rfl;rw[c0]at this;unfold qak qeq;rw[<-Option.some.inj this];simp[Value.ownBlock]
 have fw:qak b M L:=by unfold qak qeq;rw[hwv];simp[Value.ownBlock]
 have fc:qak b M K:=by have:=h.box.cell 2 _ rfl;rw[c2]at this;unfold qak qeq;rw[<-Option.some.inj this];simp[Value.ownBlock]
 have K0:=λ(w':World) (k:qba (qak b M) w w')=>(World.cell?_of_block (w:=w) (a:=⟨b,0,none⟩) (k.block b fb)).trans c0;have K1:=λ(w':World) (k:qba (qak b M) w w')=>(World.cell?_of_block (w:=w) (a:=⟨b,1,none⟩) (k.block b fb)).trans c1;have K2:=λ(w':World) (k:qba (qak b M) w w')=>(World.cell?_of_block (w:=w) (a:=⟨b,2,none⟩) (k.block b fb)).trans c2;have K3:=λ(w':World) (k:qba (qak b M) w w')=>(World.cell?_of_block (w:=w) (a:=⟨g,W.at_ i,none⟩) (k.block g fs)).trans c0';have K4:=λ(w':World) (k:qba (qak b M) w w')=>(World.cell?_of_block (w:=w) (a:=⟨L,W.at_ i,none⟩) (k.block L fw)).trans c1';have K5:=λ(w':World) (k:qba (qak b M) w w')=>(World.cell?_of_block (w:=w) (a:=⟨K,i,none⟩) (k.block K fc)).trans c2';have K00:qba (qak b M) w w:=⟨rfl,rfl,rfl,Nat.le_refl _,λ_ _=>rfl⟩;have KD:=qbx K00;clear h hc H hwc J wr hi D c0 c1 c2 c0' c1' c2' fb fs fw fc
 conv=>arg 2;whnf
 go_region_held3 (λw'=>qba (qak b M) w w') (repeat (first|(with_reducible assumption)|(with_reducible refine qw9 FL ?_ _)|(with_reducible refine qbx ?_)|(refine qzx FL ?_ (by first|exact Nat.le_refl _|assumption|(simp;omega)) _))) (first
  |(go_at_call 81
    with_reducible refine(CM.out w.drew (Below.refl _ w).drew).mono ?_
    rintro e wB ⟨o,p,q,r,s,v,x,y,z,B,C,ce,rfl,E⟩;have F:Below w.heap.size w _:=(Below.refl _ w).drew;have I:=E.out.keeps d.out.1 d.out.2.1 d.out.2.2 F;have hbs:=I.size
    have hs0:=hlt)
  |(go_at_call 81
    with_reducible refine(CM.out (w.alloc (.cells #[int i64 0,int i64 0,int i64 0,int i64 0,int i64 0,int i64 0,int i64 0,int i64 0,.slice none 0 0] 102)).drew (boxed (Below.refl _ w) (.cells #[int i64 0,int i64 0,int i64 0,int i64 0,int i64 0,int i64 0,int i64 0,int i64 0,.slice none 0 0] 102)).drew).mono ?_
    rintro e wB ⟨o,p,q,r,s,v,x,y,z,B,C,ce,rfl,E⟩;have F:Below w.heap.size w _:=(boxed (Below.refl _ w) (.cells #[int i64 0,int i64 0,int i64 0,int i64 0,int i64 0,int i64 0,int i64 0,int i64 0,.slice none 0 0] 102)).drew;have I:=E.out.keeps d.out.1 d.out.2.1 d.out.2.2 F;have hbs:=I.size;have RW0:=(qag.new (w:=w) (T:=102) (n:=w.heap.size) [int i64 0,int i64 0,int i64 0,int i64 0,int i64 0,int i64 0,int i64 0,int i64 0,.slice none 0 0] rfl).drew;have l:=E.out.box d.out.1 d.out.2.1 d.out.2.2 RW0;obtain⟨v0,v1,v2,v3,v4,v5,v6,v7,v8⟩:=l.c9;have f0:=l.free 0 (by simp);have f1:=l.free 1 (by simp);have f2:=l.free 2 (by simp);have f3:=l.free 3 (by simp);have f4:=l.free 4 (by simp);have f5:=l.free 5 (by simp);have f6:=l.free 6 (by simp);have f7:=l.free 7 (by simp)
    have f8:=l.free 8 (by simp)))
 all_goals
  first
   |(have hck:=l.lt
     go_simp
     refine HR.out _ _ _ _ _ _ _ _ _ _ _ _ _ _ _ _ _ _ _ _ _ _ _ _ _ o p q r s v x y z B C ce _ _ ⟨qb3 l rfl _ _ _ _ _ _ _ _ _,Nat.le_refl _,E.out.to d.out.1 d.out.2.2 F (λk hk1 hk2=>qem (λe=>by simp at hk1;omega) _ _ _ _ _ _ _ _ _) (qcu (qae.ofBelow (Below.refl _ _)) (Nat.le_refl _) _ _ _ _ _ _ _ _ _)⟩)
   |(go_simp
     refine HR.out _ _ _ _ _ _ _ _ _ _ _ _ _ _ _ _ _ _ _ _ _ _ _ _ _ o p q r s v x y z B C ce _ _ ⟨qag.new (w:=wB) (T:=102) [int i64 o,int i64 p,int i64 q,int i64 r,int i64 s,int i64 v,int i64 x,int i64 y,.slice B z.length C] rfl,I.size,E.out.to d.out.1 d.out.2.2 F (λk hk1 hk2=>(boxed (Below.refl _ wB) _).block k hk2) (qae.ofBelow (boxed (Below.refl _ wB) _))⟩)
end
section
open Go.Value Go.IntKind Go.RowKit
def q6z (w:World) (b:Nat) (G:Nat->Prop) (W:WoS) (i:Nat) (e:Ending) (w':World):Prop:=
 ∃m:TxM,e=.returned (.tuple #[txV m,int i64 (wcE W i)])/\m.t=wcT W i/\Hid (qaz w' m.wa m.wc m.t.ws/\∃G',RW w' b G' (wcW W i)/\(∀k,G' k->G k\/w.heap.size<=k)/\qae G w w'/\∀k,m.blk k->G' k)
variable {w:World} {b:Nat}
theorem qfw {tmps:Array Value} {x0 x1 x2 x3 d e g j:Int} {ev:Value} {a:Option Addr} {n c:Nat} (h:qag w b [int i64 x0,int i64 x1,int i64 x2,int i64 x3,int i64 d,int i64 e,int i64 g,int i64 j,.slice a n c]) (k:tmps[4]?=some (.pointer (some ⟨b,0,none⟩))) (l:tmps[5]?=some ev):
 (results Tryz.f34 tmps).run Tryz.prog w=.ok (.tuple #[.agg #[int i64 x0,int i64 x1,int i64 x2,int i64 x3,int i64 d,int i64 e,int i64 g,int i64 j,.slice a n c],ev]) w:=by
 obtain⟨z0,o,z2,z3,z4,z5,p,q,r⟩:=h.c9;simp[results,Tryz.results34,go_sem,k,l,z0,o,z2,z3,z4,z5,p,q,r]
structure q1d (w wr:World) (b:Nat) (G:Nat->Prop) (W':WoS) (m:TxM) (mb:Nat):Prop where
 rt:qag wr w.heap.size [int i64 0,int i64 0,int i64 0,int i64 0,int i64 0,int i64 0,int i64 0,int i64 0,.slice none 0 0]
 rm:qag wr mb (txC m)
 ne:w.heap.size<mb
 wi:qaz wr m.wa m.wc m.t.ws
 all:∃G',RW wr b G' W'/\(∀k,G' k->G k\/w.heap.size<k)/\qae (λk=>G k\/k=w.heap.size) w wr/\(∀k,m.blk k->G' k)
def jei (w:World) (b:Nat) (M:RoM) (W:WoS) (Gs:Nat->Nat->Prop) (i:Nat) (m:TxM) (F':Nat->Option Obj) (Gs':Nat->Nat->Prop) (mb:Nat) (wC:World):Prop:=qag wC mb (txC m)/\w.heap.size<=mb/\qaz wC m.wa m.wc m.t.ws/\RWo wC b {M with F:=qcg M.F (W.at_ i) F'} (qkv W i) Gs'/\(∀j k,Gs' j k->Gs j k\/w.heap.size<=k)/\qae (λk=>Gs (W.n+i) k\/Gs (W.at_ i) k) w wC/\∀k,m.blk k->∃o,F' k=some o
variable {i mb:Nat} {G:Nat->Prop} {W:WoS} {m:TxM} {wr:World}
theorem jei.told {M:RoM} {s:Nat->Nat->Prop} {f:World} {W':WoS} (h:RWo w b M W s) (a:∀k,G k↔qmp b M (W.n+W.c) s k) (hi:i<W.c) (u:W.at_ i<W.n) {F':Nat->Option Obj} {d:Nat->Nat->Prop} (H:jei (w.alloc (.cells #[int i64 0,int i64 0,int i64 0,int i64 0,int i64 0,int i64 0,int i64 0,int i64 0,.slice none 0 0] 102)) b M W s i m F' d mb f) (y:qgh f b {M with F:=qcg M.F (W.at_ i) F'} d W' wr) (v:W'.n=W.n) (z:W'.c=W.c):q1d w wr b G W' m mb:=by
 obtain⟨A,X,L,N,O,g,B⟩:=H
 have Y:(w.alloc (.cells #[int i64 0,int i64 0,int i64 0,int i64 0,int i64 0,int i64 0,int i64 0,int i64 0,.slice none 0 0] 102)).heap.size=w.heap.size+1:=by simp
 have P:=y.post (W:=qkv W i) (G:=qmp b M (W.n+W.c) d) (λ_=>Iff.rfl) v z;obtain⟨x,C,p1,p2,t2⟩:=y;obtain⟨Z,q1,q2,q3⟩:=P;have s1:=g.size
 have Q:∀k,k=b\/M.yv.ownBlock=some k->k<w.heap.size:=λk e=>h.ltF k (by
  rcases e with e|e
  ·rw[e];simp[qak,qeq]
  ·unfold qak qeq;rw[e];simp)
 have nl:∀k,w.heap.size<=k->¬(k=b\/M.yv.ownBlock=some k):=λk D e=>by have:=Q k e;omega
 have R:=λk (D:w.heap.size<=k)=>qnu.lie (i:=i) h hi u D;have E:=qag.new (w:=w) (T:=102) (n:=w.heap.size) [int i64 0,int i64 0,int i64 0,int i64 0,int i64 0,int i64 0,int i64 0,int i64 0,.slice none 0 0] rfl;have I:qag f w.heap.size _:=E.kept (g.block _ E.lt (R _ (Nat.le_refl _))) g.size
 have S:∀k,qmp b M (W.n+W.c) d k->G k\/w.heap.size<k:=λk e=>by
  rcases e with e|⟨j,U,e⟩
  ·exact .inl ((a k).2 (.inl e))
  ·exact(O j k e).imp (λq=>(a k).2 (.inr ⟨j,U,q⟩)) (λq=>by omega)
 have V:qae (λk=>G k\/k=w.heap.size) w f:=(qae.ofBelow (boxed (Below.refl _ w) _)).more g (λk e=>.inl (.inl (e.elim (λq=>(a k).2 (.inr ⟨_,by omega,q⟩)) (λq=>(a k).2 (.inr ⟨_,by omega,q⟩)))))
 have J:W.at_ i<W'.n:=by rw[v];exact u
 have K:∀{k o},F' k=some o->({M with F:=qcg M.F (W.at_ i) F',yv:=x,l:=C}:RoM).F (W.at_ i) k=some o:=λ{k o} e=>by show qcg M.F (W.at_ i) F' (W.at_ i) k=_;rw[qam];exact e
 refine⟨I.kept (t2.block _ I.lt (nl _ (Nat.le_refl _))) t2.size,A.kept (t2.block _ A.lt (nl _ (by omega))) t2.size,by omega,?_,?_⟩
 ·refine L.kept (m:=m) (λk e=>?_);obtain⟨o,p⟩:=B k e;exact((p1.site J).frozen (K p)).trans ((N.site (i:=W.at_ i) u).frozen (o:=o) (k:=k) (by show qcg M.F (W.at_ i) F' (W.at_ i) k=_;rw[qam];exact p)).symm
 ·refine⟨qmp b {M with F:=qcg M.F (W.at_ i) F',yv:=x,l:=C} (W'.n+W'.c) d,⟨_,d,p1,λ_=>Iff.rfl⟩,λk e=>?_,V.more t2 (λk e=>.inl (.inl ((a k).2 (.inl (by
   rcases e with e|e
   ·rw[e];simp[qak,qeq]
   ·unfold qak qeq;rw[e];simp))))),λk e=>?_⟩
  ·rw[v,z]at e;rcases e with e|e
   ·have e:some k∈[some b,M.sv.ownBlock,M.wv.ownBlock,M.cv.ownBlock,M.av.ownBlock]++[x.ownBlock]:=e;rcases List.mem_append.1 e with q|q
    ·exact .inl ((a k).2 (.inl (List.mem_append_left [M.yv.ownBlock] q)))
    ·rcases p2 k (List.mem_singleton.1 q).symm with r|r
     ·exact .inl ((a k).2 (.inl (by unfold qak qeq;rw[r];simp)))
     ·exact .inr (by omega)
   ·exact S k (.inr e)
  ·obtain⟨o,p⟩:=B k e;exact .inr ⟨W.at_ i,by omega,(p1.site J).frozenG (K p)⟩
theorem q1d.done (h:q1d w wr b G (wcW W i) m mb) (hb:∀k,G k->k<w.heap.size) {c:World} (t9:qae (λk=>k=w.heap.size) wr c):Hid (qaz c m.wa m.wc m.t.ws/\∃a,RW c b a (wcW W i)/\(∀k,a k->G k\/w.heap.size<=k)/\qae G w c/\∀k,m.blk k->a k):=by
 obtain⟨a,a1,a2,a3,a4⟩:=h.all
 have ne:∀k,a k->k≠w.heap.size:=λk e q=>by
  rcases a2 k e with r|r
  ·have:=hb k r;omega
  ·omega
 refine⟨h.wi.kept (m:=m) (λk e=>t9.block k (a1.lt k (a4 k e)) (ne k (a4 k e))),a,a1.kept (λk e=>t9.block k (a1.lt k e) (ne k e)) t9.size,λk e=>(a2 k e).imp id (λq=>by omega),?_,a4⟩;have s:=a3.size;exact⟨t9.os.trans a3.os,t9.tape.trans a3.tape,t9.output.trans a3.output,Nat.le_trans s t9.size,λk d f=>(t9.block k (by omega) (by omega)).trans (a3.block k d (λe=>e.elim f (by omega)))⟩
theorem q9u (h:¬0<(wcT W i).seq):wcW W i=qkv W i:=if_neg h
theorem jcc (h:0<(wcT W i).seq):wcW W i=qec (wcT W i) W.n (qkv W i):=if_pos h
theorem q26 (w:World) (h:RW w b G W) (P:WfW W) (hi:i<W.c) (hp:0<=(W.ses i).p0) (hs:0<(wcT W i).seq->(wcT W i).site=(W.at_ i:Int)):
 Calls Tryz.prog 34 #[.pointer (some ⟨b,0,none⟩),int i64 i] w (q6z w b G W i):=by
 obtain⟨M,O,h,U⟩:=h;have ha:=P.at_ i hi;have hb0:=boxed (Below.refl _ w) (.cells #[int i64 0,int i64 0,int i64 0,int i64 0,int i64 0,int i64 0,int i64 0,int i64 0,.slice none 0 0] 102);have V:=h.later hb0;have X:Hid _:=RW.lt ⟨M,O,h,U⟩;have x:Hid (RWo w b M W O/\(∀k,G k↔qmp b M (W.n+W.c) O k)/\i<W.c/\W.at_ i<W.n/\W.n<=4/\(0<(wcT W i).seq->(wcT W i).site=(W.at_ i:Int))):=⟨h,U,hi,ha,P.n4,hs⟩;have Q:Hid (RWo (w.alloc (.cells #[int i64 0,int i64 0,int i64 0,int i64 0,int i64 0,int i64 0,int i64 0,int i64 0,.slice none 0 0] 102)) b M W O/\WfW W/\0<=(W.ses i).p0):=⟨V,P,hp⟩;obtain⟨ca,cca,da,dda,c2,hcl,c3,hdl,R⟩:=V.clientsAt;obtain⟨cg,cg',rfl,rfl,hcg,hcg',R⟩:=R (by omega);have c3':=(R i hi).2;have hlt:=h.box.lt
 have q1:(i:Int)<(W.c:Int):=by omega
 clear h U P R V hi ha hs hp c2;go_enter Tryz.func34,Tryz.ntmps34
 go_wp2_with fail
 refine qmv (q29 (i:=i) _ Q.out.1 Q.out.2.1 x.out.2.2.1 Q.out.2.2 _ ?_);rintro u17 u18 u19 u20 u21 u22 u23 u24 u25 u26 u27 u28 u29 u30 u31 u32 u33 u34 u35 u36 u37 u38 u39 u40 u41 a d g j l o p u v B C ce mb K ⟨Y,hmb,h1,h2,h3,F',Z,h4,h5,tt,h6⟩;have E:Hid (ce=wcE W i/\(⟨⟨a,d,g,j,l,o,p,u,v⟩,B,C⟩:TxM).t=wcT W i):=⟨h1,h2⟩;have J:Hid (jei (w.alloc (.cells #[int i64 0,int i64 0,int i64 0,int i64 0,int i64 0,int i64 0,int i64 0,int i64 0,.slice none 0 0] 102)) b M W O i (⟨⟨a,d,g,j,l,o,p,u,v⟩,B,C⟩:TxM) F' Z mb K):=⟨Y,hmb,h3,h4,h5,tt,h6⟩;have RM:=Y;clear Q h1 h2 h3 h4 h5 tt h6 Y c3 c3' hmb;have lm:=RM.lt;obtain⟨x0,x1,x2,x3,x4,x5,x6,x7,x8⟩:=RM.c9;clear RM;by_cases hE:ce=0
 ·subst hE;by_cases hsq:0<d
  ·have HT:Hid (wcW W i=qec ⟨a,d,g,j,l,o,p,u,v⟩ W.n (qkv W i)/\a=(W.at_ i:Int)):=by
        have e:0<(wcT W i).seq:=by rw[<-E.out.2];exact hsq
        refine⟨?_,?_⟩
        ·rw[jcc e,<-E.out.2]
        ·have:=x.out.2.2.2.2.2 e;rw[<-E.out.2]at this;exact this
   obtain⟨sg,scap,s0o,hscap,hsg,hsc⟩:=J.out.2.2.2.1.sitesAt (i:=W.at_ i) x.out.2.2.2.1;have hlC:=J.out.2.2.2.1.box.lt;have s0:K.cell? ⟨b,0,none⟩=some (.slice (some ⟨sg,0,none⟩) W.n scap):=s0o;have hscap:W.n<=scap:=hscap;clear hsc s0o
   go_wp2_with fail
   clear s0 x0 x1 x2 x3 x4 x5 x6 x7 x8
   go_loopw [54] (λiv wr=>∃(k:Nat) (z:Int),k<=W.n/\z=k/\iv=int i64 z/\Hid (qgh K b {M with F:=qcg M.F (W.at_ i) F'} Z (qec ⟨a,d,g,j,l,o,p,u,v⟩ k (qkv W i)) wr)) (λiv _=>W.n-(intOf iv).toNat)
   case atStart=>exact⟨0,0,by omega,rfl,rfl,qgh.none J.out.2.2.2.1 (Below.refl _ _)⟩
   case round=>
        obtain⟨k,z,hk,hz,rfl,S⟩:=hrel;have N:Hid _:=hz;by_cases hlt2:k<W.n
        ·have g1:z<(W.n:Int):=by omega
         have g2:z.toNat=k:=by omega
         have g3:0<=z:=by omega
         have g4:z<4:=by have:=x.out.2.2.2.2.1;omega
         clear hz;obtain⟨ai,hai⟩:∃ai:Int,(W.at_ i:Int)=ai:=⟨_,rfl⟩;have HAI:Hid _:=hai;rw[hai];clear hai;by_cases hka:z=ai
         ·have HT2:Hid (qec ⟨a,d,g,j,l,o,p,u,v⟩ (k+1) (qkv W i)=qec ⟨a,d,g,j,l,o,p,u,v⟩ k (qkv W i)):=if_pos (by show (k:Int)=a;rw[HT.out.2,HAI.out,<-N.out];exact hka);subst hka
          go_wp2_with fail
          go_roundw
          case rel=>exact⟨k+1,z+1,by omega,by have:=N.out;omega,by go_num,by rw[HT2.out];exact S.out⟩
          case measure=>simp[intOf];have:=N.out;omega
         ·have HT2:Hid (qec ⟨a,d,g,j,l,o,p,u,v⟩ (k+1) (qkv W i)=qdd (qec ⟨a,d,g,j,l,o,p,u,v⟩ k (qkv W i)) ⟨k,.tx ⟨a,d,g,j,l,o,p,u,v⟩⟩):=if_neg (by show ¬(k:Int)=a;rw[HT.out.2,HAI.out,<-N.out];exact hka);have y:Hid _:=J.out.told x.out.1 x.out.2.1 x.out.2.2.1 x.out.2.2.2.1 S.out (qce _ _ _).n (qce _ _ _).c;have RMr:=y.out.rm;have lmr:=RMr.lt;obtain⟨x0,x1,x2,x3,x4,x5,x6,x7,x8⟩:=RMr.c9
          have SX:Hid (Calls Tryz.prog 82 #[.pointer (some ⟨b,0,none⟩),.agg #[int i64 z,int i64 a,int i64 d,int i64 g,int i64 j,int i64 l,int i64 o,int i64 p,int i64 u,.slice B v.length C,int i64 0,int i64 0,int i64 0,int i64 0,int i64 0]] wr λe w'=>e=.returned (.tuple #[])/\qgh K b {M with F:=qcg M.F (W.at_ i) F'} Z (qdd (qec ⟨a,d,g,j,l,o,p,u,v⟩ k (qkv W i)) ⟨k,.tx ⟨a,d,g,j,l,o,p,u,v⟩⟩) w'):=by
           obtain⟨yv',l',p1,p2,t2⟩:=S.out
           have hin:W.at_ i<(qec ⟨a,d,g,j,l,o,p,u,v⟩ k (qkv W i)).n:=by rw[(qce _ _ _).n];exact x.out.2.2.2.1
           have ok:GrR.Ok wr (qec ⟨a,d,g,j,l,o,p,u,v⟩ k (qkv W i)).n ({M with F:=qcg M.F (W.at_ i) F'}:RoM).F ⟨⟨k,.tx ⟨a,d,g,j,l,o,p,u,v⟩⟩,B,C⟩:=by
            refine⟨y.out.wi,λq e=>?_,λ_ _ _ _ _ e=>by simp at e⟩;obtain⟨ob,hob⟩:=J.out.2.2.2.2.2.2 q e;exact⟨W.at_ i,ob,hin,by show qcg M.F (W.at_ i) F' (W.at_ i) q=_;rw[qam];exact hob⟩
           refine(qnx wr p1 ⟨⟨k,.tx ⟨a,d,g,j,l,o,p,u,v⟩⟩,B,C⟩ ok (by rw[N.out];rfl)).mono λe w' ⟨he,T⟩=>⟨he,?_⟩;have s:=t2.size;obtain⟨yv2,l2,g1',g2',gt⟩:=T;refine⟨yv2,l2,g1',λq e=>(g2' q e).elim (p2 q) (λr=>.inr (by omega)),t2.more gt (λq e=>?_)⟩;exact e.elim (λr=>.inl (.inl r)) (λr=>(p2 q r).imp .inr id)
          clear RMr y
          go_wp2_with fail
          refine SX.out.mono ?_;rintro e w5 ⟨rfl,T⟩;have SN:Hid _:=T;clear SX T x0 x1 x2 x3 x4 x5 x6 x7 x8
          go_wp2_with fail
          go_roundw
          case rel=>exact⟨k+1,z+1,by omega,by have:=N.out;omega,by go_num,by rw[HT2.out];exact SN.out⟩
          case measure=>simp[intOf];have:=N.out;omega
        ·have g1:¬z<(W.n:Int):=by omega
         have e:k=W.n:=by omega
         clear hz
         have y:Hid (q1d w wr b G (wcW W i) (⟨⟨a,d,g,j,l,o,p,u,v⟩,B,C⟩:TxM) mb):=by have:=J.out.told x.out.1 x.out.2.1 x.out.2.2.1 x.out.2.2.2.1 S.out (qce _ _ _).n (qce _ _ _).c;rw[e,<-HT.out.1]at this;exact this
         have H:=y.out.rm;have D:=y.out.rt;obtain⟨y0,y1,y2,y3,y4,y5,y6,y7,y8⟩:=H.c9;obtain⟨t0,t1,t2,t3,t4,t5,t6,t7,t8⟩:=D.c9;obtain⟨f0,f1,f2,f3,f4,f5,f6,f7,f8⟩:=D.f9;have I:=And.intro (qb3 D rfl a d g j l o p u (.slice B v.length C)) (y.out.done X.out (qcu (F:=λk=>k=w.heap.size) (qae.ofBelow (Below.refl _ wr)) rfl a d g j l o p u (.slice B v.length C)));simp only[qbu]at I;have L:Hid _:=I;have lm:=H.lt;have lr:=D.lt;have nm:=y.out.ne;clear I H D
         go_wp2_with fail
         (try simp only[Exit.inBlock,Exit.then])
         refine bodyPost_ret (qfw L.out.1 rfl rfl) rfl ⟨(⟨⟨a,d,g,j,l,o,p,u,v⟩,B,C⟩:TxM),by rw[<-E.out.1];rfl,E.out.2,L.out.2⟩
  ·have HN:Hid (wcW W i=qkv W i):=q9u (by rw[<-E.out.2];exact hsq)
   have y:Hid (q1d w K b G (wcW W i) (⟨⟨a,d,g,j,l,o,p,u,v⟩,B,C⟩:TxM) mb):=by have:=J.out.told x.out.1 x.out.2.1 x.out.2.2.1 x.out.2.2.2.1 (qgh.none J.out.2.2.2.1 (Below.refl _ _)) rfl rfl;rw[<-HN.out]at this;exact this
   have H:=y.out.rm;have D:=y.out.rt;obtain⟨y0,y1,y2,y3,y4,y5,y6,y7,y8⟩:=H.c9;obtain⟨t0,t1,t2,t3,t4,t5,t6,t7,t8⟩:=D.c9;obtain⟨f0,f1,f2,f3,f4,f5,f6,f7,f8⟩:=D.f9;have I:=And.intro (qb3 D rfl a d g j l o p u (.slice B v.length C)) (y.out.done X.out (qcu (F:=λk=>k=w.heap.size) (qae.ofBelow (Below.refl _ K)) rfl a d g j l o p u (.slice B v.length C)));simp only[qbu]at I;have L:Hid _:=I;have lm:=H.lt;have lr:=D.lt;have nm:=y.out.ne;clear I H D
   go_wp2_with fail
   (try simp only[Exit.inBlock,Exit.then])
   refine bodyPost_ret (qfw L.out.1 rfl rfl) rfl ⟨(⟨⟨a,d,g,j,l,o,p,u,v⟩,B,C⟩:TxM),by rw[<-E.out.1];rfl,E.out.2,L.out.2⟩
 ·have HN:Hid (wcW W i=qkv W i):=q9u (by
   have e:wcE W i≠0:=by rw[<-E.out.1];exact hE
   have q:=qyj e;show ¬0<(qe7 _ _ _).seq;rw[q.1]
   decide)
  have y:Hid (q1d w K b G (wcW W i) (⟨⟨a,d,g,j,l,o,p,u,v⟩,B,C⟩:TxM) mb):=by have:=J.out.told x.out.1 x.out.2.1 x.out.2.2.1 x.out.2.2.2.1 (qgh.none J.out.2.2.2.1 (Below.refl _ _)) rfl rfl;rw[<-HN.out]at this;exact this
  have H:=y.out.rm;have D:=y.out.rt;obtain⟨y0,y1,y2,y3,y4,y5,y6,y7,y8⟩:=H.c9;obtain⟨t0,t1,t2,t3,t4,t5,t6,t7,t8⟩:=D.c9;obtain⟨f0,f1,f2,f3,f4,f5,f6,f7,f8⟩:=D.f9;have I:=And.intro (qb3 D rfl a d g j l o p u (.slice B v.length C)) (y.out.done X.out (qcu (F:=λk=>k=w.heap.size) (qae.ofBelow (Below.refl _ K)) rfl a d g j l o p u (.slice B v.length C)));simp only[qbu]at I;have L:Hid _:=I;have lm:=H.lt;have lr:=D.lt;have nm:=y.out.ne;clear I H D
  go_wp2_with fail
  (try simp only[Exit.inBlock,Exit.then])
  refine bodyPost_ret (qfw L.out.1 rfl rfl) rfl ⟨(⟨⟨a,d,g,j,l,o,p,u,v⟩,B,C⟩:TxM),by rw[<-E.out.1];rfl,E.out.2,L.out.2⟩
end
section
open Go.RowKit
structure qpz (w:World) (hb b:Nat) (Gw:Nat->Prop) (W:WoS):Prop where
 box:w.heap[hb]?=some (.cells #[.pointer (some ⟨b,0,none⟩)] 49 (0,0))
 rw:RW w b Gw W
 n:¬Gw hb
def jcs (hb:Nat) (W:WoS) (w:World) (G:Nat->Prop):Prop:=∃b Gw,qpz w hb b Gw W/\∀k,G k↔(k=hb\/Gw k)
variable {w1:World}
section
variable {w w':World} {hb b:Nat} {Gw G:Nat->Prop} {W W':WoS}
theorem qpz.lt (h:qpz w hb b Gw W):hb<w.heap.size:=(Array.getElem?_eq_some_iff.1 h.box).1
theorem qpz.kept (h:qpz w hb b Gw W) (a:∀k,(k=hb\/Gw k)->w'.heap[k]?=w.heap[k]?) (hs:w.heap.size<=w'.heap.size):qpz w' hb b Gw W:=
 ⟨(a hb (.inl rfl)).trans h.box,h.rw.kept (λk e=>a k (.inr e)) hs,h.n⟩
theorem jcs.lt (h:jcs hb W w G):∀k,G k->k<w.heap.size:=λk a=>by
 obtain⟨b,Gw,h,d⟩:=h;rcases(d k).1 a with rfl|e
 ·exact h.lt
 ·exact h.rw.lt k e
theorem jcs.kept (h:jcs hb W w G) (d:∀k,G k->w'.heap[k]?=w.heap[k]?) (hs:w.heap.size<=w'.heap.size):jcs hb W w' G:=by
 obtain⟨b,Gw,h,a⟩:=h;exact⟨b,Gw,h.kept (λk e=>d k ((a k).2 e)) hs,a⟩
def hsP (hb:Nat) (W:WoS):qnm:=⟨λw G=>jcs hb W w G,λ_ _ h=>h.lt,λ_ _ _ h=>h.kept⟩
theorem qpz.later (h:qpz w hb b Gw W) (a:Below w.heap.size w w'):qpz w' hb b Gw W:=
 h.kept (λk e=>a.block k (by rcases e with rfl|e;exact h.lt;exact h.rw.lt k e)) a.size
theorem qpz.cell (h:qpz w hb b Gw W):w.cell? ⟨hb,0,none⟩=some (.pointer (some ⟨b,0,none⟩)):=by rw[Lib.cell_of_heap h.box];rfl
theorem qpz.op (h:qpz w hb b Gw W) (d:∀k,G k↔(k=hb\/Gw k)) (g:Below w.heap.size w w1) (m:qfc w1 b Gw W' w'):qg0 (hsP hb W') w G w':=by
 obtain⟨j,p1,p2,a⟩:=m;have l:=h.later g;have lc:=l.lt;refine⟨λk=>k=hb\/j k,⟨b,j,⟨(a.block hb lc h.n).trans l.box,p1,λe=>?_⟩,λ_=>Iff.rfl⟩,λk i=>?_,?_⟩
 ·rcases p2 hb e with q|q
  ·exact h.n q
  ·omega
 ·rcases i with rfl|e
  ·exact .inl ((d k).2 (.inl rfl))
  ·rcases p2 k e with q|q
   ·exact .inl ((d k).2 (.inr q))
   ·exact .inr (Nat.le_trans g.size q)
 ·exact(qae.ofBelow g).trans ⟨a.os,a.tape,a.output,a.size,λk i o=>a.block k i (λe=>o ((d k).2 (.inr e)))⟩
theorem qpz.same (h:qpz w hb b Gw W) (d:∀k,G k↔(k=hb\/Gw k)) (a:Below w.heap.size w w'):qg0 (hsP hb W) w G w':=
 ⟨G,⟨b,Gw,h.later a,d⟩,λ_ e=>.inl e,qae.ofBelow a⟩
theorem q8z (h:qg0 (hsP hb W') w G w1) (a:Below w1.heap.size w1 w'):qg0 (hsP hb W') w G w':=by
 obtain⟨d,p1,p2,g⟩:=h;exact⟨d,p1.kept (λk e=>a.block k (p1.lt k e)) a.size,p2,g.trans (qae.ofBelow a)⟩
end
variable {w:World} {W:WoS}
theorem RW.lens {b:Nat} {G:Nat->Prop} (h:RW w b G W):∃a0 a a2 d a4 e,w.cell? ⟨b,0,none⟩=some (.slice a0 W.n a)/\w.cell? ⟨b,2,none⟩=some (.slice a2 W.c d)/\w.cell? ⟨b,4,none⟩=some (.slice a4 W.net.length e)/\w.cell? ⟨b,5,none⟩=some (.int .i64 W.lost)/\b<w.heap.size:=by
 obtain⟨M,m,h,_⟩:=h;obtain⟨a0,a,g,_⟩:=qai h.sr;obtain⟨a2,d,i,_⟩:=qai h.cr;obtain⟨a4,e,j,_⟩:=qai h.yr
 have k:M.l.length=W.net.length:=by rw[<-h.nl];simp
 have c0:=h.box.cell 0 _ rfl;have c2:=h.box.cell 2 _ rfl;have c4:=h.box.cell 4 _ rfl;rw[g]at c0;rw[i]at c2;rw[j,k]at c4;exact⟨a0,a,a2,d,a4,e,c0,c2,c4,h.box.cell 5 _ rfl,h.box.lt⟩
structure jau (w:World) (B:Nat) (a:Option Addr) (cap:Nat) (ns:List Int):Prop where
 cap:ns.length<=cap
 cell:∀(j:Nat) x,ns[j]?=some x->∃g,a=some ⟨g,0,none⟩/\B<=g/\g<w.heap.size/\w.cell? ⟨g,j,none⟩=some (.int .i64 x)
variable {ns:List Int}
theorem jau.later {w':World} {B:Nat} {a:Option Addr} {cap:Nat} (h:jau w B a cap ns) (hb:Below w.heap.size w w'):jau w' B a cap ns:=
 ⟨h.cap,λj x e=>by obtain⟨g,i,k,d,l⟩:=h.cell j x e;exact⟨g,i,k,Nat.lt_of_lt_of_le d hb.size,(hb.cell (p:=⟨g,j,none⟩) d).trans l⟩⟩
def thC (W:WoS) (c:UInt8) (n:Int):Bool:=if c=99 then inB n 0 ((W.c:Int)-1)else if c=115 then inB n 0 ((W.n:Int)-1)else if c=105 then inB n 0 ((W.net.length:Int)-1)else true
def thB (W:WoS):List UInt8->List Int->Bool
 |[],_=>true
 |c::f,ns=>if c=119 then thB W f ns else match ns with
  |[]=>true
  |n::r=>thC W c n&&thB W f r
def qnn:List UInt8->Nat
 |[]=>0
 |c::f=>if c=119 then qnn f else qnn f+1
variable {c:UInt8} {f:List UInt8}
theorem jd8 (e:c=119):thB W (c::f) ns=thB W f ns:=if_pos e
theorem jeh {n:Int} {r:List Int} (e:¬c=119):thB W (c::f) (n::r)=(thC W c n&&thB W f r):=if_neg e
theorem q9v (e:c=119):qnn (c::f)=qnn f:=if_pos e
theorem q3n (e:¬c=119):qnn (c::f)=qnn f+1:=if_neg e
end
section
open Go.RowKit
theorem qzo {hb b B:Nat} {Gw:Nat->Prop} {W:WoS} {a:Option Addr} {cap:Nat} (f:List UInt8) (ns:List Int) (hf:f.length<=3) (ha:∀c∈f,c.toNat<128) (hn:qnn f=ns.length) (w:World) (h:qpz w hb b Gw W) (V:WfW W) (hN:jau w B a cap ns):
 Calls Tryz.prog 30 #[.pointer (some ⟨hb,0,none⟩),.string (bya f),.slice a ns.length cap] w λe w'=>e=.returned (.bool (thB W f ns))/\Below w.heap.size w w':=by
 have hne:=Later.one;have hcn:W.c<=6:=V.c6;have hnn:W.n<=4:=V.n4;have hnet:W.net.length<=300:=V.net;have hcap:=hN.cap;obtain⟨a0,k0,a2,k2,a4,k4,c0,c2,c4,_,hbl⟩:=h.rw.lens;have hc:=h.cell;have hbox:=h.lt;have HN:Hid _:=hN;have HA:Hid _:=ha
 have hn3:ns.length<=3:=by
  have:∀l:List UInt8,qnn l<=l.length:=λl=>by
   induction l with
   |nil=>exact Nat.le_refl _
   |cons c r ih=>unfold qnn;split<;>simp only[List.length_cons]<;>omega
  have:=this f;omega
 have HF:Hid _:=hn;clear h V hN ha hn;go_enter Tryz.func30,Tryz.ntmps30
 go_wp2
 go_loopw [7] (λkv wr=>∃(p k:Nat) (z:Int),p<=f.length/\k<=ns.length/\z=k/\kv=.int .i64 z/\wr.heap[w.heap.size]?=some (.stringIter (bya f) p)/\Hid (thB W f ns=thB W (f.drop p) (ns.drop k)/\qnn (f.drop p)=(ns.drop k).length)/\Below w.heap.size w wr) (λ_ wr=>f.length-wr.iterPos w.heap.size)
 case atStart=>exact⟨0,0,0,Nat.zero_le _,Nat.zero_le _,rfl,rfl,World.iter_heap w (bya f) 0,⟨rfl,HF.out⟩,(Below.refl _ w).alloc (Nat.le_refl _) _⟩
 case round=>
  obtain⟨p,k,z,hp,hk,hz,rfl,I,X,J⟩:=hrel;have R:Hid _:=hz;have S:Hid _:=I;by_cases Y:p<f.length
  ·obtain⟨c,T⟩:∃c,f[p]=c:=⟨_,rfl⟩
   have hdf:f.drop p=c::f.drop (p+1):=by rw[List.drop_eq_getElem_cons Y,T]
   have C:(Instr.next (.pointer (some ⟨w.heap.size,0,none⟩)) true 0).run Tryz.prog wr=.ok (.tuple #[.bool true,.int .i64 p,.int .i32 (c.toNat:Int)]) (wr.iterAt w.heap.size (bya f) (p+1)):=by
        have hs:p<(bya f).size:=by rw[Lib.size_eq];exact Y
        have hx:(bya f)[p]'hs=c:=by rw[<-T];rfl
        have:=Lib.run_next_ascii_at (P:=Tryz.prog) wr w.heap.size (bya f) p 0 I hs (by rw[hx];exact HA.out c (by rw[<-T];exact List.getElem_mem Y));rw[hx]at this;exact this
   obtain⟨D,E⟩:∃D,wr.iterAt w.heap.size (bya f) (p+1)=D:=⟨_,rfl⟩
   have ot:∀j,j≠w.heap.size->D.heap[j]?=wr.heap[j]?:=λj hj=>by rw[<-E];exact Lib.iterAt_other _ _ _ _ _ hj
   have s1:D.heap.size=wr.heap.size:=by rw[<-E];exact Lib.iterAt_size _ _ _ _
   have Z:D.heap[w.heap.size]?=some (.stringIter (bya f) (p+1)):=by rw[<-E];exact Lib.iterAt_heap _ _ _ _ _ I
   have hb1:Below w.heap.size w D:=by
        refine⟨?_,?_,?_,by rw[s1];exact J.size,λj hj=>(ot j (by omega)).trans (J.block j hj)⟩
        ·rw[<-E];exact J.os
        ·rw[<-E];exact J.tape
        ·rw[<-E];exact J.output
   have lt1:w.heap.size<D.heap.size:=(Array.getElem?_eq_some_iff.1 Z).1;rw[E]at C;have K:Hid _:=Z;have u:Hid (Below w.heap.size w D/\w.heap.size<D.heap.size):=⟨hb1,lt1⟩;obtain⟨N,L⟩:=X.out;rw[hdf]at N L;by_cases m:c=119
   ·have d:Hid (thB W f ns=thB W (f.drop (p+1)) (ns.drop k)/\qnn (f.drop (p+1))=(ns.drop k).length):=⟨N.trans (jd8 m),(q9v m).symm.trans L⟩
    have i:(c.toNat:Int)=119:=by rw[m];rfl
    rw[i]at C;clear i m N L hdf E ot I Z T
    go_wp2
    go_roundw
    case rel=>exact⟨p+1,k,z,by omega,hk,R.out,rfl,K.out,d.out,u.out.1⟩
    case measure=>rw[iterPos_of K.out,iterPos_of S.out];omega
   ·have hk2:k<ns.length:=by
     rw[q3n m,List.length_drop]at L;omega
    obtain⟨n,hnx⟩:∃n,ns[k]=n:=⟨_,rfl⟩
    have hdn:ns.drop k=n::ns.drop (k+1):=by rw[List.drop_eq_getElem_cons hk2,hnx]
    obtain⟨g,rfl,_,hgl,cg⟩:=HN.out.cell k n (by rw[List.getElem?_eq_getElem hk2,hnx]);rw[hdn]at N L;have o:thB W f ns=(thC W c n&&thB W (f.drop (p+1)) (ns.drop (k+1))):=N.trans (jeh m)
    have F:qnn (f.drop (p+1))=(ns.drop (k+1)).length:=by
     rw[q3n m,List.length_cons]at L;omega
    have O:=λ(q:Addr) (v:Value) (hq:q.block<w.heap.size) (e:w.cell? q=some v)=>Later.cell ((hb1.cell (p:=q) hq).trans e);have l0:=O ⟨hb,0,none⟩ _ hbox hc;have l1:=O ⟨b,0,none⟩ _ hbl c0;have l2:=O ⟨b,2,none⟩ _ hbl c2;have l4:=O ⟨b,4,none⟩ _ hbl c4;have l5:=O ⟨g,k,none⟩ _ hgl cg
    have g1:0<=z:=by omega
    have g2:z<(ns.length:Int):=by omega
    have g3:z.toNat=k:=by omega
    have g4:z<3:=by omega
    clear N L hdf hdn E ot I Z T O hz hnx X hb1;by_cases G:c=99
    ·have s:thC W c n=inB n 0 ((W.c:Int)-1):=by unfold thC;rw[if_pos G]
     have i:(c.toNat:Int)=99:=by rw[G];rfl
     cases hin:inB n 0 ((W.c:Int)-1)
     ·have y:=λx:World=>qax hin x
      have d:Hid (thB W f ns=false):=by show _=_;rw[o,s,hin];rfl
      clear hin s o G m;rw[i]at C;clear i
      go_wp2_with fail
      refine qaa (by kernel_rfl) (by kernel_rfl) ?_
      repeat (go_big_quiet_step (first|rfl|(go_at_call 28;with_reducible exact qac (y _))))
      refine wpQuiet_nil ?_;rintro w2 ⟨⟨_,t⟩,rfl⟩
      go_wp2
      go_ret;exact⟨by rw[d.out];rfl,qab u.out.1 t⟩
     ·have y:=λx:World=>qax hin x;have d:Hid (thB W f ns=thB W (f.drop (p+1)) (ns.drop (k+1))/\qnn (f.drop (p+1))=(ns.drop (k+1)).length):=⟨by rw[o,s,hin];rfl,F⟩;clear hin s o F G m;rw[i]at C;clear i
      go_wp2_with fail
      refine qaa (by kernel_rfl) (by kernel_rfl) ?_
      repeat (go_big_quiet_step (first|rfl|(go_at_call 28;with_reducible exact qac (y _))))
      refine wpQuiet_nil ?_;rintro w2 ⟨⟨_,t⟩,rfl⟩;have H:w2.heap[w.heap.size]?=some (.stringIter (bya f) (p+1)):=(t.block _ (by have:=u.out.2;omega)).trans K.out;have U:Below w.heap.size w w2:=qab u.out.1 t
      go_wp2
      go_roundw
      case rel=>exact⟨p+1,k+1,z+1,by omega,by omega,by have:=R.out;omega,by go_num,H,d.out,U⟩
      case measure=>rw[iterPos_of H,iterPos_of S.out];omega
    by_cases M:c=115
    ·have s:thC W c n=inB n 0 ((W.n:Int)-1):=by unfold thC;rw[if_neg G,if_pos M]
     have i:(c.toNat:Int)=115:=by rw[M];rfl
     cases hin:inB n 0 ((W.n:Int)-1)
     ·have y:=λx:World=>qax hin x
      have d:Hid (thB W f ns=false):=by show _=_;rw[o,s,hin];rfl
      clear hin s o M m;rw[i]at C;clear i
      go_wp2_with fail
      refine qaa (by kernel_rfl) (by kernel_rfl) ?_
      repeat (go_big_quiet_step (first|rfl|(go_at_call 28;with_reducible exact qac (y _))))
      refine wpQuiet_nil ?_;rintro w2 ⟨⟨_,t⟩,rfl⟩
      go_wp2
      go_ret;exact⟨by rw[d.out];rfl,qab u.out.1 t⟩
     ·have y:=λx:World=>qax hin x;have d:Hid (thB W f ns=thB W (f.drop (p+1)) (ns.drop (k+1))/\qnn (f.drop (p+1))=(ns.drop (k+1)).length):=⟨by rw[o,s,hin];rfl,F⟩;clear hin s o F M m;rw[i]at C;clear i
      go_wp2_with fail
      refine qaa (by kernel_rfl) (by kernel_rfl) ?_
      repeat (go_big_quiet_step (first|rfl|(go_at_call 28;with_reducible exact qac (y _))))
      refine wpQuiet_nil ?_;rintro w2 ⟨⟨_,t⟩,rfl⟩;have H:w2.heap[w.heap.size]?=some (.stringIter (bya f) (p+1)):=(t.block _ (by have:=u.out.2;omega)).trans K.out;have U:Below w.heap.size w w2:=qab u.out.1 t
      go_wp2
      go_roundw
      case rel=>exact⟨p+1,k+1,z+1,by omega,by omega,by have:=R.out;omega,by go_num,H,d.out,U⟩
      case measure=>rw[iterPos_of H,iterPos_of S.out];omega
    by_cases Q:c=105
    ·have s:thC W c n=inB n 0 ((W.net.length:Int)-1):=by unfold thC;rw[if_neg G,if_neg M,if_pos Q]
     have i:(c.toNat:Int)=105:=by rw[Q];rfl
     cases hin:inB n 0 ((W.net.length:Int)-1)
     ·have y:=λx:World=>qax hin x
      have d:Hid (thB W f ns=false):=by show _=_;rw[o,s,hin];rfl
      clear hin s o Q m;rw[i]at C;clear i
      go_wp2_with fail
      refine qaa (by kernel_rfl) (by kernel_rfl) ?_
      repeat (go_big_quiet_step (first|rfl|(go_at_call 28;with_reducible exact qac (y _))))
      refine wpQuiet_nil ?_;rintro w2 ⟨⟨_,t⟩,rfl⟩
      go_wp2
      go_ret;exact⟨by rw[d.out];rfl,qab u.out.1 t⟩
     ·have y:=λx:World=>qax hin x;have d:Hid (thB W f ns=thB W (f.drop (p+1)) (ns.drop (k+1))/\qnn (f.drop (p+1))=(ns.drop (k+1)).length):=⟨by rw[o,s,hin];rfl,F⟩;clear hin s o F Q m;rw[i]at C;clear i
      go_wp2_with fail
      refine qaa (by kernel_rfl) (by kernel_rfl) ?_
      repeat (go_big_quiet_step (first|rfl|(go_at_call 28;with_reducible exact qac (y _))))
      refine wpQuiet_nil ?_;rintro w2 ⟨⟨_,t⟩,rfl⟩;have H:w2.heap[w.heap.size]?=some (.stringIter (bya f) (p+1)):=(t.block _ (by have:=u.out.2;omega)).trans K.out;have U:Below w.heap.size w w2:=qab u.out.1 t
      go_wp2
      go_roundw
      case rel=>exact⟨p+1,k+1,z+1,by omega,by omega,by have:=R.out;omega,by go_num,H,d.out,U⟩
      case measure=>rw[iterPos_of H,iterPos_of S.out];omega
    have e119':¬((c.toNat:Int)=119):=λq=>m (UInt8.toNat.inj (by show c.toNat=119;omega));have e99':¬((c.toNat:Int)=99):=λq=>G (UInt8.toNat.inj (by show c.toNat=99;omega));have e115':¬((c.toNat:Int)=115):=λq=>M (UInt8.toNat.inj (by show c.toNat=115;omega));have e105':¬((c.toNat:Int)=105):=λq=>Q (UInt8.toNat.inj (by show c.toNat=105;omega));have d:Hid (thB W f ns=thB W (f.drop (p+1)) (ns.drop (k+1))/\qnn (f.drop (p+1))=(ns.drop (k+1)).length):=⟨by rw[o];unfold thC;rw[if_neg G,if_neg M,if_neg Q];rfl,F⟩;clear o F
    go_wp2
    go_roundw
    case rel=>exact⟨p+1,k+1,z+1,by omega,by omega,by have:=R.out;omega,by go_num,K.out,d.out,u.out.1⟩
    case measure=>rw[iterPos_of K.out,iterPos_of S.out];omega
  ·have C:(Instr.next (.pointer (some ⟨w.heap.size,0,none⟩)) true 0).run Tryz.prog wr=.ok (.tuple #[.bool false]) wr:=Lib.run_next_end_at wr w.heap.size (bya f) p 0 I (by rw[Lib.size_eq];exact Y)
   have d:Hid (thB W f ns=true):=by
        show _=_;rw[X.out.1,List.drop_eq_nil_of_le (by omega)];rfl
   have HB:Hid _:=J;clear X J I hz
   go_wp2
   go_ret;exact⟨by rw[d.out];rfl,HB.out⟩
end
section
open Go.RowKit
theorem q3u:(Tryz.prog.info? 167).map (λi=>(i.zero,i.size,i.bytes))=some (some (.agg #[.pointer none,.int .i64 0]),2,16):=by kernel_rfl
theorem q02:(Tryz.prog.info? 171).map (λi=>(i.zero,i.size,i.bytes))=some (some (.agg #[.pointer none,.int .i64 0]),2,16):=by kernel_rfl
def jdt:WoM:=⟨.slice none 0 0,.slice none 0 0,.slice none 0 0,λ_=>0,λ_=>0,[]⟩
theorem q2k (w:World) (T:TypeId):PWo (w.alloc (.cells #[.slice none 0 0,.slice none 0 0,.slice none 0 0,.int .i64 0] T)) w.heap.size jdt (qhk 0 0) (λ_ _=>False):=by
 refine⟨qag.new (w:=w) (T:=T) [.slice none 0 0,.slice none 0 0,.slice none 0 0,.int .i64 0] rfl,World.ownsRow_nil _ _ _ _,World.ownsRow_nil _ _ _ _,World.ownsRow_nil _ _ _ _,rfl,λm a=>(by cases a),⟨λi hi=>by simp[qhk]at hi,λi j k hi=>by simp[qhk]at hi,λk b=>?_,λk b=>b.elim⟩,⟨λe=>(by cases e),λe=>(by cases e),λe=>(by cases e)⟩,λk=>⟨λe=>(by cases e),λe=>(by cases e)⟩,λm a=>(by cases a)⟩;rcases b with e|e|e|e|⟨m,a,_⟩
 ·exact⟨by rw[e];simp,λi hi=>by simp[qhk]at hi⟩
 ·cases e
 ·cases e
 ·cases e
 ·cases a
theorem jef (w:World):∀k,qiu w.heap.size jdt k->w.heap.size<=k:=λk a=>by
 rcases a with e|e|e|e|⟨m,b,_⟩
 ·omega
 ·cases e
 ·cases e
 ·cases e
 ·cases b
structure qz3 (w:World) (M:WoM) (W:WoS) (Gs:Nat->Nat->Prop) (wr:World):Prop where
 is:PWo wr w.heap.size M W Gs
 gs:∀j k,j<W.n+W.c->Gs j k->w.heap.size<=k
 ft:∀k,qiu w.heap.size M k->w.heap.size<=k
 nl:M.l=[]
 hb:Below w.heap.size w wr
theorem jde {n c:Nat} (U:1<=n) (h4:n<=4) (h6:c<=6) (w:World):
 Calls Tryz.prog 65 #[.int .i64 n,.int .i64 c] w λe w'=>e=.returned (.tuple #[.pointer (some ⟨w.heap.size,0,none⟩),.nilIface])/\∃G,PW w' w.heap.size G (qhk n c)/\(∀k,G k->w.heap.size<=k)/\Below w.heap.size w w':=by
 obtain⟨i0,hi0,hz0,hz1,hz2⟩:=info_parts q3u;obtain⟨i5,hi5,hy0,hy1,hy2⟩:=info_parts q02
 have q1:¬(n:Int)<1:=by omega
 have q2:¬4<(n:Int):=by omega
 have q3:¬(c:Int)<0:=by omega
 have q4:¬6<(c:Int):=by omega
 have D:Hid (n<=4/\c<=6):=⟨h4,h6⟩;have N0:Hid (qz3 w jdt (qhk 0 0) (λ_ _=>False) (w.alloc (.cells #[.slice none 0 0,.slice none 0 0,.slice none 0 0,.int .i64 0] 162))):=⟨q2k w _,λ_ _ _ h=>h.elim,jef w,rfl,boxed (Below.refl _ w) _⟩;clear U h4 h6;go_enter Tryz.func65,Tryz.ntmps65
 go_wp2_with fail
 clear q1 q2 q3 q4
 go_loopw [28] (λiv wr=>∃(k:Nat) (z:Int) (M:WoM) (b:Nat->Nat->Prop),k<=n/\z=k/\iv=.int .i64 z/\Hid (qz3 w M (qhk k 0) b wr)) (λiv _=>n-(intOf iv).toNat)
 case atStart=>exact⟨0,0,jdt,_,by omega,rfl,rfl,N0.out⟩
 case round=>
  clear N0;obtain⟨k,z,M,b,hk,V,rfl,a⟩:=hrel;have S:Hid (z=k):=V;by_cases hlt:k<n
  ·have g1:z<(n:Int):=by omega
   have g3:0<=z:=by omega
   have g4:z<4:=by have:=D.out;omega
   have NN:=jal z wr g3 g4;obtain⟨pa,pc,hpv,r⟩:=qai a.out.is.pr;have hrl:=r.len;have hrc:=r.cap;have o:Hid (M.pv=.slice pa k pc):=hpv;clear V r hpv
   go_wp2_with fail
   refine NN.mono ?_;rintro e w2 ⟨rfl,F,d⟩;rw[S.out]at F;have HP2:Hid (PS w2 (wr.heap.size+1) (λq=>q=wr.heap.size+1\/q=wr.heap.size) (qpo k)/\Below wr.heap.size wr w2):=⟨F,d⟩;have s:=boxed (Below.refl _ w2) (.cells #[.pointer (some ⟨wr.heap.size+1,0,none⟩),.int .i64 0] 167);have H:=qad a.out.is.pr (λq e=>d.block q (a.out.is.pr.lt q e).2);have E:=(a.out.is.box.later d).later s;rw[o.out]at H E;have c0:=(a.out.is.box.later d).cell 0 _ rfl;rw[o.out]at c0;have hlw:=(a.out.is.box.later d).lt;clear NN F
   go_wp2_with (at_builtin;refine wpList_append_lies _ rfl (.tmp 43) (.tmp 46) 158 rfl 0 167 i0 (.agg #[.pointer none,.int .i64 0]) 2 16 Tryz.underlying158 hi0 hz0 hz1 hz2 rfl (by decide) (.slice pa k pc) k (qc2 M.bp (qhk k 0).wall k) rfl (H.alloc _) ⟨w2.heap.size,0,none⟩ 1 1 [.pointer (some ⟨wr.heap.size+1,0,none⟩),.int .i64 0] rfl rfl (World.news_of_block (heap_alloc_new w2 (.cells #[.pointer (some ⟨wr.heap.size+1,0,none⟩),.int .i64 0] 167))) (by intro u I;simp at I;rcases I with rfl|rfl<;>rfl) (by decide) (by have:=D.out;simp only[maxLen];omega) (by have:=D.out;omega) (Nat.zero_le _) _ rfl ?_;intro i l v W B J X;have K:qag v w.heap.size _:=E.grown B (λe=>a.out.is.sb.1 (by rw[o.out];exact e.symm));have e0:=K.cell 0 _ rfl;have f0:=K.free 0 (by simp))
   have L:=a.out.is.addSite rfl HP2.out.1 (by omega) (by omega) rfl d s W (by rw[o.out];exact B) (by rw[o.out];exact J) X;have hsz:=a.out.hb.size
   have N:∀j q,j<(qhk (k+1) 0).n+(qhk (k+1) 0).c->(λj=>if j=k then (λq=>q=wr.heap.size+1\/q=wr.heap.size)else b j) j q->w.heap.size<=q:=λj q O e=>by
        have g:(if j=k then (λq=>q=wr.heap.size+1\/q=wr.heap.size)else b j) q:=e;by_cases P:j=k
        ·rw[if_pos P]at g
         rcases g with g|g<;>omega
        ·rw[if_neg P]at g;exact a.out.gs j q (by simp[qhk]at O ⊢;omega) g
   have Q:∀q,qiu w.heap.size {M with pv:=.slice (some ⟨i,0,none⟩) (k+1) l,bp:=λj=>if j=k then wr.heap.size+1 else M.bp j} q->w.heap.size<=q:=λq e=>by
        rcases e with e|e|e|e|⟨m,hm,e⟩
        ·omega
        ·have g:i=q:=Option.some.inj e;rcases J with r|r
         ·exact a.out.ft q (.inr (.inl (by rw[o.out,<-g];exact r)))
         ·simp at r;have:=d.size;omega
        ·exact a.out.ft q (.inr (.inr (.inl e)))
        ·exact a.out.ft q (.inr (.inr (.inr (.inl e))))
        ·exact a.out.ft q (.inr (.inr (.inr (.inr ⟨m,hm,e⟩))))
   have R:Below w.heap.size w (v.setCell ⟨w.heap.size,0,none⟩ (.slice (some ⟨i,0,none⟩) (k+1) l)):=((qab (qab a.out.hb d) s).grown B (by have:=d.size;simp;omega) (λq e=>a.out.ft q (.inr (.inl (by rw[o.out];exact e))))).setCell (p:=⟨w.heap.size,0,none⟩) (Nat.le_refl _) _;have Y:Hid (qz3 w {M with pv:=.slice (some ⟨i,0,none⟩) (k+1) l,bp:=λj=>if j=k then wr.heap.size+1 else M.bp j} (qhk (k+1) 0) (λj=>if j=k then (λq=>q=wr.heap.size+1\/q=wr.heap.size)else b j) (v.setCell ⟨w.heap.size,0,none⟩ (.slice (some ⟨i,0,none⟩) (k+1) l))):=⟨L,N,Q,a.out.nl,R⟩;clear L N Q R
   go_roundw
   case rel=>exact⟨k+1,z+1,_,_,by omega,by have:=S.out;omega,by go_num,Y.out⟩
   case measure=>simp[intOf];have:=S.out;omega
  ·have g1:¬z<(n:Int):=by omega
   have ek:k=n:=by omega
   subst ek;have H0:Hid (qz3 w M (qhk k 0) b wr):=a;clear V hlt S
   go_wp2_with fail
   clear g1
   go_loopw [52] (λiv wr=>∃(m:Nat) (y:Int) (M:WoM) (b:Nat->Nat->Prop),m<=c/\y=m/\iv=.int .i64 y/\Hid (qz3 w M (qhk k m) b wr)) (λiv _=>c-(intOf iv).toNat)
   case atStart=>exact⟨0,0,M,b,by omega,rfl,rfl,H0.out⟩
   case round=>
        clear H0 a;obtain⟨m,y,M,b,hm,Z,rfl,a⟩:=hrel;have HY:Hid (y=m):=Z;by_cases hml:m<c
        ·have g1:y<(c:Int):=by omega
         have g3:0<=y:=by omega
         have g4:y<6:=by have:=D.out;omega
         obtain⟨ca,cc,hcv,r⟩:=qai a.out.is.cr;have hrl:=r.len;have hrc:=r.cap;have C:Hid (M.cv=.slice ca m cc):=hcv;have T:=a.out.is.box;rw[C.out]at T;have c1:=T.cell 1 _ rfl;have hlw:=T.lt;have SN:Hid (Calls Tryz.prog 118 #[] wr.drew λe w'=>e=.returned (.pointer (some ⟨wr.heap.size,0,none⟩))/\PSe w' wr.heap.size (λk=>k=wr.heap.size) qia/\Below wr.heap.size wr w'):=(q3h wr.drew).mono λe w' ⟨U,h2,h3⟩=>⟨U,h2,qab (Below.refl _ wr).drew h3⟩;clear Z r hcv
         go_wp2_with fail
         go_region_law (first
          |(refine qcn rfl 118 rfl #[] (by go_simp) SN.out ?_
            rintro e w2 ⟨rfl,F,d⟩;refine⟨_,rfl,?_⟩;have s:=boxed (Below.refl _ w2) (.cells #[.pointer (some ⟨wr.heap.size,0,none⟩),.int .i64 0] 171);have H:=qad a.out.is.cr (λq e=>d.block q (a.out.is.cr.lt q e).2);rw[C.out]at H;have E:=T.later d;have k1:=E.cell 1 _ rfl
            have hl2:=E.lt)
          |(refine step_append_lies _ rfl (.tmp 58) (.tmp 61) 159 rfl 0 171 i5 (.agg #[.pointer none,.int .i64 0]) 2 16 Tryz.underlying159 hi5 hy0 hy1 hy2 rfl (by decide) (.slice ca m cc) m (qc2 M.bs (λj=>((qhk k m).at_ j:Int)) m) (by simp[Act.eval]) (H.alloc _) ⟨w2.heap.size,0,none⟩ 1 1 [.pointer (some ⟨wr.heap.size,0,none⟩),.int .i64 0] (by simp[Act.eval]) rfl (World.news_of_block (heap_alloc_new w2 (.cells #[.pointer (some ⟨wr.heap.size,0,none⟩),.int .i64 0] 171))) (by intro u I;simp at I;rcases I with rfl|rfl<;>rfl) (by decide) (by have:=D.out;simp only[maxLen];omega) (by have:=D.out;omega) (Nat.zero_le _) _ rfl ?_
            intro i l v W B J X;have K:qag v w.heap.size _:=(E.later s).grown B (λe=>a.out.is.sb.2.1 (by rw[C.out];exact e.symm));have e0:=K.cell 1 _ rfl
            have f0:=K.free 1 (by simp)))
         all_goals
          have L:=a.out.is.addSes F (Nat.le_refl _) rfl d s W (by rw[C.out];exact B) (by rw[C.out];exact J) X;have hsz:=a.out.hb.size;have s2:=d.size
          have N:∀j q,j<(qhk k (m+1)).n+(qhk k (m+1)).c->(λj=>if j=k+m then (λq=>q=wr.heap.size)else b j) j q->w.heap.size<=q:=λj q O e=>by
           have g:(if j=k+m then (λq=>q=wr.heap.size)else b j) q:=e;by_cases P:j=k+m
           ·rw[if_pos P]at g;omega
           ·rw[if_neg P]at g;exact a.out.gs j q (by simp[qhk]at O ⊢;omega) g
          have Q:∀q,qiu w.heap.size {M with cv:=.slice (some ⟨i,0,none⟩) (m+1) l,bs:=λj=>if j=m then wr.heap.size else M.bs j} q->w.heap.size<=q:=λq e=>by
           rcases e with e|e|e|e|⟨x,hx,e⟩
           ·omega
           ·exact a.out.ft q (.inr (.inl e))
           ·have g:i=q:=Option.some.inj e;rcases J with r|r
            ·exact a.out.ft q (.inr (.inr (.inl (by rw[C.out,<-g];exact r))))
            ·simp at r;omega
           ·exact a.out.ft q (.inr (.inr (.inr (.inl e))))
           ·exact a.out.ft q (.inr (.inr (.inr (.inr ⟨x,hx,e⟩))))
          have R:Below w.heap.size w (v.setCell ⟨w.heap.size,1,none⟩ (.slice (some ⟨i,0,none⟩) (m+1) l)):=((qab (qab a.out.hb d) s).grown B (by simp;omega) (λq e=>a.out.ft q (.inr (.inr (.inl (by rw[C.out];exact e)))))).setCell (p:=⟨w.heap.size,1,none⟩) (Nat.le_refl _) _;have Y:Hid (qz3 w {M with cv:=.slice (some ⟨i,0,none⟩) (m+1) l,bs:=λj=>if j=m then wr.heap.size else M.bs j} (qhk k (m+1)) (λj=>if j=k+m then (λq=>q=wr.heap.size)else b j) (v.setCell ⟨w.heap.size,1,none⟩ (.slice (some ⟨i,0,none⟩) (m+1) l))):=⟨L,N,Q,a.out.nl,R⟩;clear L N Q R
          go_wp2_with fail
          go_roundw
          case rel=>exact⟨m+1,y+1,_,_,by omega,by have:=HY.out;omega,by go_num,Y.out⟩
          case measure=>simp[intOf];have:=HY.out;omega
        ·have g1:¬y<(c:Int):=by omega
         have em:m=c:=by omega
         subst em;clear Z
         go_wp2_with fail
         go_ret2;exact⟨rfl,ql7 w.heap.size M (k+m) b,⟨M,b,a.out.is,λ_=>Iff.rfl⟩,λq hq=>hq.elim (a.out.ft q) (λ⟨j,O,e⟩=>a.out.gs j q O e),a.out.hb⟩
end
section
open Go.RowKit
def qop (i:Nat) (W:WoS) (l:List Int) (d:ByteArray) (w:World) (b:Nat) (G:Nat->Prop) (e:Ending) (w':World):Prop:=
 ∃W' er,qd3 i W l d W' er (qaj i)/\e=.returned (qbq er)/\qd8 w b G W' w'
variable {k:Int}
section
variable {b:Nat} {G:Nat->Prop} {W:WoS} {j:Nat}
theorem qca {n:Nat} (h:qbt k n):∃i:Nat,k=i/\i<n/\k.toNat=i:=⟨k.toNat,by have:=h.1;omega,by have:=h.1;have:=h.2;omega,rfl⟩
theorem q6w (k:Int) (w:World) (h:PW w b G W):Calls Tryz.prog 94 #[.pointer (some ⟨b,0,none⟩),.int .i64 k] w (qop 0 W [k] ⟨#[]⟩ w b G):=by
 by_cases a:qbt k W.c
 ·obtain⟨i,rfl,hi,e⟩:=qca a;exact(q8x w h hi).mono λ_ _ ⟨d,g⟩=>⟨_,_,⟨rfl,by rw[if_pos a];exact⟨rfl,rfl⟩⟩,d,g⟩
 ·exact(qxe k w h a).mono λ_ _ ⟨d,g⟩=>⟨W,2,⟨rfl,by rw[if_neg a];exact⟨rfl,rfl⟩⟩,d,qd8.same h g⟩
theorem q8t (k:Int) (w:World) (h:PW w b G W) (l:PlI j W):Calls Tryz.prog 98 #[.pointer (some ⟨b,0,none⟩),.int .i64 k] w (qop 2 W [k] ⟨#[]⟩ w b G):=by
 by_cases a:qbt k W.c
 ·obtain⟨i,rfl,hi,e⟩:=qca a;exact(q6l w h l.wf hi).mono λ_ _ ⟨d,g⟩=>⟨_,_,⟨rfl,by rw[if_pos a];exact⟨rfl,rfl⟩⟩,d,g⟩
 ·exact(qw3 k w h a).mono λ_ _ ⟨d,g⟩=>⟨W,2,⟨rfl,by rw[if_neg a];exact⟨rfl,rfl⟩⟩,d,qd8.same h g⟩
theorem jdb (k o:Int) (w:World) (h:PW w b G W) (p:PlI j W):Calls Tryz.prog 96 #[.pointer (some ⟨b,0,none⟩),.int .i64 k,.int .i64 o] w (qop 1 W [k,o] ⟨#[]⟩ w b G):=by
 by_cases d:qbt k W.n
 ·obtain⟨i,rfl,hi,e⟩:=qca d;by_cases g:qbt o W.n
  ·obtain⟨m,rfl,r,s⟩:=qca g;by_cases l:i=m
   ·subst l;exact(qvu w h hi).mono λ_ _ ⟨a,c⟩=>⟨W,2,⟨rfl,by rw[if_neg (λq=>q.2.2 rfl)];exact⟨rfl,rfl⟩⟩,a,c⟩
   ·exact(q9n w h p.wf hi r l).mono λ_ _ ⟨a,c⟩=>⟨_,_,⟨rfl,by rw[if_pos ⟨d,g,by omega⟩];exact⟨rfl,rfl⟩⟩,a,c⟩
  ·exact(qy6 o w h hi g).mono λ_ _ ⟨a,c⟩=>⟨W,2,⟨rfl,by rw[if_neg (λq=>g q.2.1)];exact⟨rfl,rfl⟩⟩,a,qd8.same h c⟩
 ·exact(q28 k o w h d).mono λ_ _ ⟨a,c⟩=>⟨W,2,⟨rfl,by rw[if_neg (λq=>d q.1)];exact⟨rfl,rfl⟩⟩,a,qd8.same h c⟩
theorem qjg (a:qbt k W.net.length):∃(i:Nat) (g:GrS),k=i/\k.toNat=i/\W.net[i]?=some g:=by
 obtain⟨i,e,hi,c⟩:=qca a;exact⟨i,W.net[i],e,c,List.getElem?_eq_getElem hi⟩
theorem q05 (k:Int) (w:World) (h:PW w b G W) (l:PlI j W):Calls Tryz.prog 104 #[.pointer (some ⟨b,0,none⟩),.int .i64 k] w (qop 6 W [k] ⟨#[]⟩ w b G):=by
 by_cases a:qbt k W.net.length
 ·obtain⟨i,g,rfl,e,m⟩:=qjg a;exact(qqu w h l.wf m).mono λ_ _ ⟨c,W',d,n⟩=>⟨W',0,⟨rfl,by rw[if_pos a];exact⟨d.out,rfl⟩⟩,c,n⟩
 ·exact(qp1 k w h a).mono λ_ _ ⟨c,d⟩=>⟨W,2,⟨rfl,by rw[if_neg a];exact⟨rfl,rfl⟩⟩,c,qd8.same h d⟩
theorem jab (k:Int) (w:World) (h:PW w b G W) (l:PlI j W):Calls Tryz.prog 109 #[.pointer (some ⟨b,0,none⟩),.int .i64 k] w (qop 10 W [k] ⟨#[]⟩ w b G):=by
 by_cases a:qbt k W.net.length
 ·obtain⟨i,g,rfl,e,m⟩:=qjg a;exact(jce w h l.wf.net m).mono λ_ _ ⟨c,d⟩=>⟨_,0,⟨rfl,by rw[if_pos a];exact⟨rfl,rfl⟩⟩,c,d⟩
 ·exact(qxg k w h a).mono λ_ _ ⟨c,d⟩=>⟨W,2,⟨rfl,by rw[if_neg a];exact⟨rfl,rfl⟩⟩,c,qd8.same h d⟩
theorem q8j (k:Int) (w:World) (h:PW w b G W):Calls Tryz.prog 116 #[.pointer (some ⟨b,0,none⟩),.int .i64 k] w (qop 16 W [k] ⟨#[]⟩ w b G):=by
 by_cases a:qbt k W.net.length
 ·obtain⟨i,g,rfl,e,l⟩:=qjg a;exact(q74 w h l).mono λ_ _ ⟨c,d⟩=>⟨_,0,⟨rfl,by rw[if_pos a];exact⟨⟨g,l,rfl⟩,rfl⟩⟩,c,d⟩
 ·exact(quv k w h a).mono λ_ _ ⟨c,d⟩=>⟨W,2,⟨rfl,by rw[if_neg a];exact⟨rfl,rfl⟩⟩,c,qd8.same h d⟩
theorem q8m (k:Int) (w:World) (h:PW w b G W) (g:PlI j W):Calls Tryz.prog 115 #[.pointer (some ⟨b,0,none⟩),.int .i64 k] w (qop 15 W [k] ⟨#[]⟩ w b G):=by
 by_cases a:qbt k W.n
 ·obtain⟨i,rfl,hi,e⟩:=qca a;exact(q7x w h g.wf hi).mono λ_ _ ⟨c,d⟩=>⟨_,0,⟨rfl,by rw[if_pos a];exact⟨rfl,rfl⟩⟩,c,d⟩
 ·exact(qxd k w h a).mono λ_ _ ⟨c,d⟩=>⟨W,2,⟨rfl,by rw[if_neg a];exact⟨rfl,rfl⟩⟩,c,qd8.same h d⟩
theorem jar (k y:Int) (w:World) (h:PW w b G W) (l:PlI j W):Calls Tryz.prog 106 #[.pointer (some ⟨b,0,none⟩),.int .i64 k,.int .i64 y] w (qop 8 W [k,y] ⟨#[]⟩ w b G):=by
 by_cases g:qbt k W.n
 ·obtain⟨i,rfl,hi,e⟩:=qca g;by_cases a:0<=y/\y<=1099511627776
  ·exact(q98 w h hi a.1 a.2 (l.wl i hi).1 (l.wl i hi).2).mono λ_ _ ⟨c,d⟩=>⟨_,0,⟨rfl,by rw[if_pos ⟨g,a⟩];exact⟨rfl,rfl⟩⟩,c,d⟩
  ·exact(qxa y w h hi a).mono λ_ _ ⟨c,d⟩=>⟨W,2,⟨rfl,by rw[if_neg (λq=>a q.2)];exact⟨rfl,rfl⟩⟩,c,qd8.same h d⟩
 ·exact(q0d k y w h g).mono λ_ _ ⟨c,d⟩=>⟨W,2,⟨rfl,by rw[if_neg (λq=>g q.1)];exact⟨rfl,rfl⟩⟩,c,qd8.same h d⟩
theorem jai (k y:Int) (w:World) (h:PW w b G W):Calls Tryz.prog 112 #[.pointer (some ⟨b,0,none⟩),.int .i64 k,.int .i64 y] w (qop 12 W [k,y] ⟨#[]⟩ w b G):=by
 by_cases g:qbt k W.c
 ·obtain⟨i,rfl,hi,e⟩:=qca g;by_cases l:qbt y W.n
  ·obtain⟨m,rfl,o,p⟩:=qca l;exact(jbq w h hi o).mono λ_ _ ⟨a,d⟩=>⟨_,_,⟨rfl,by rw[if_pos ⟨g,l⟩];exact⟨rfl,rfl⟩⟩,a,d⟩
  ·exact(qvy y w h hi l).mono λ_ _ ⟨a,d⟩=>⟨W,2,⟨rfl,by rw[if_neg (λq=>l q.2)];exact⟨rfl,rfl⟩⟩,a,qd8.same h d⟩
 ·exact(qz4 k y w h g).mono λ_ _ ⟨a,d⟩=>⟨W,2,⟨rfl,by rw[if_neg (λq=>g q.1)];exact⟨rfl,rfl⟩⟩,a,qd8.same h d⟩
theorem q94 (k key:Int) (w:World) (h:PW w b G W):Calls Tryz.prog 105 #[.pointer (some ⟨b,0,none⟩),.int .i64 k,.agg #[.int .i64 key,.string ⟨#[]⟩,.bool true]] w (qop 7 W [k,key] ⟨#[]⟩ w b G):=by
 by_cases a:qbt k W.c
 ·obtain⟨i,rfl,hi,e⟩:=qca a;exact(qx3 key ⟨#[]⟩ true w h hi).mono λ_ _ ⟨d,g⟩=>⟨_,_,⟨rfl,by rw[if_pos a];exact⟨rfl,rfl⟩⟩,d,g⟩
 ·exact(qpe k key ⟨#[]⟩ true w h a).mono λ_ _ ⟨d,g⟩=>⟨W,2,⟨rfl,by rw[if_neg a];exact⟨rfl,rfl⟩⟩,d,qd8.same h g⟩
theorem q7p (k key:Int) (d:ByteArray) (w:World) (h:PW w b G W):Calls Tryz.prog 105 #[.pointer (some ⟨b,0,none⟩),.int .i64 k,.agg #[.int .i64 key,.string d,.bool false]] w (qop 18 W [k,key] d w b G):=by
 by_cases a:qbt k W.c
 ·obtain⟨i,rfl,hi,e⟩:=qca a;exact(qx3 key d false w h hi).mono λ_ _ ⟨g,l⟩=>⟨_,_,⟨rfl,by rw[if_pos a];exact⟨rfl,rfl⟩⟩,g,l⟩
 ·exact(qpe k key d false w h a).mono λ_ _ ⟨g,l⟩=>⟨W,2,⟨rfl,by rw[if_neg a];exact⟨rfl,rfl⟩⟩,g,qd8.same h l⟩
end
end
section
open Go.RowKit Go.Maps
variable {w:World}
theorem qan {P:Program} {o:Oper} {a:Act} {K:Act->World->Prop} {Q:Exit->Act->World->Prop} (f:FuncId) (args:Array Value) (g:(execOp a.eval o).run P w=.ok (.enter f args) w) {R:Ending->World->Prop} (h:Calls P f args w R)
 (k:∀e w',R e w'->(∃v,e=.returned v/\K (a.put o.dst v) w')\/∃c,e=.panicked c/\Q (.panic c) a w'):Oper.wp P o a w K Q:=by
 unfold Oper.wp;rw[g,Oper.upon_enter];refine h.mono λe w' m=>?_;rcases k e w' m with ⟨v,rfl,d⟩|⟨c,rfl,d⟩
 ·exact d
 ·exact d
def jco (i:Nat):Nat:=[46,47,48,49,50,51,52,53,54,55,56,57,58,59,60,61,62,63,64].getD i 0
def doV (cb i:Nat):Value:=.func (.func (jco i)) #[.pointer (some ⟨cb,0,none⟩)] #[]
structure qrf (D:DataW Value) (cb n:Nat):Prop where
 size:Maps.size D=n
 has:∀i,i<n->Maps.has D (.string (qaj i))=true/\∀z,D.atKey (.string (qaj i)) z=.held (doV cb i)
 no:∀s,(∀i,i<n->s≠qaj i)->Maps.has D (.string s)=false/\∀z,D.atKey (.string s) z=z
def qez (w:World) (mb cb n:Nat):Prop:=∃D,w.ownsMap Tryz.prog 9 qe3 mb n D/\qrf D cb n
variable {w':World} {mb cb n:Nat}
theorem qez.kept (h:qez w mb cb n) (e:w'.heap[mb]?=w.heap[mb]?):qez w' mb cb n:=by
 obtain⟨D,⟨es,c,hb,r⟩,d⟩:=h;exact⟨D,⟨es,c,by rw[e];exact hb,r⟩,d⟩
theorem qez.lt (h:qez w mb cb n):mb<w.heap.size:=by
 obtain⟨D,h,_⟩:=h;exact h.lt
structure qmn (w:World) (cb mb b:Nat) (Gw:Nat->Prop) (W:WoS):Prop where
 box:w.heap[cb]?=some (.cells #[.pointer (some ⟨b,0,none⟩),.map (some mb)] 57 (0,0))
 map:qez w mb cb 19
 pw:PW w b Gw W
 n1:cb≠mb
 n2:¬Gw cb
 n3:¬Gw mb
def q9g (cb mb:Nat) (W:WoS) (w:World) (G:Nat->Prop):Prop:=∃b Gw,qmn w cb mb b Gw W/\∀k,G k↔(k=cb\/k=mb\/Gw k)
variable {w1:World}
section
variable {w w':World} {cb mb b:Nat} {Gw G:Nat->Prop} {W W':WoS}
theorem qmn.ltc (h:qmn w cb mb b Gw W):cb<w.heap.size:=(Array.getElem?_eq_some_iff.1 h.box).1
theorem qmn.kept (h:qmn w cb mb b Gw W) (c:∀k,(k=cb\/k=mb\/Gw k)->w'.heap[k]?=w.heap[k]?) (hs:w.heap.size<=w'.heap.size):qmn w' cb mb b Gw W:=
 ⟨(c cb (.inl rfl)).trans h.box,h.map.kept (c mb (.inr (.inl rfl))),h.pw.kept (λk e=>c k (.inr (.inr e))) hs,h.n1,h.n2,h.n3⟩
theorem q9g.lt (h:q9g cb mb W w G):∀k,G k->k<w.heap.size:=λk c=>by
 obtain⟨b,Gw,h,d⟩:=h;rcases(d k).1 c with rfl|rfl|e
 ·exact h.ltc
 ·exact h.map.lt
 ·exact h.pw.lt k e
theorem q9g.kept (h:q9g cb mb W w G) (d:∀k,G k->w'.heap[k]?=w.heap[k]?) (hs:w.heap.size<=w'.heap.size):q9g cb mb W w' G:=by
 obtain⟨b,Gw,h,c⟩:=h;exact⟨b,Gw,h.kept (λk e=>d k ((c k).2 e)) hs,c⟩
def ckP (cb mb:Nat) (W:WoS):qnm:=⟨λw G=>q9g cb mb W w G,λ_ _ h=>h.lt,λ_ _ _ h=>h.kept⟩
theorem qmn.later (h:qmn w cb mb b Gw W) (hb:Below w.heap.size w w'):qmn w' cb mb b Gw W:=
 h.kept (λk e=>hb.block k (by rcases e with rfl|rfl|e;exact h.ltc;exact h.map.lt;exact h.pw.lt k e)) hb.size
theorem qmn.cell0 (h:qmn w cb mb b Gw W):w.cell? ⟨cb,0,none⟩=some (.pointer (some ⟨b,0,none⟩)):=by rw[Lib.cell_of_heap h.box];rfl
theorem qmn.cell1 (h:qmn w cb mb b Gw W):w.cell? ⟨cb,1,none⟩=some (.map (some mb)):=by rw[Lib.cell_of_heap h.box];rfl
theorem qmn.op (h:qmn w cb mb b Gw W) (d:∀k,G k↔(k=cb\/k=mb\/Gw k)) (hb:Below w.heap.size w w1) (o:qd8 w1 b Gw W' w'):qg0 (ckP cb mb W') w G w':=by
 obtain⟨m,p1,p2,c⟩:=o;have f:=h.later hb;have lc:cb<w1.heap.size:=f.ltc;have lm:mb<w1.heap.size:=f.map.lt;refine⟨λk=>k=cb\/k=mb\/m k,⟨b,m,⟨(c.block cb lc h.n2).trans f.box,f.map.kept (c.block mb lm h.n3),p1,h.n1,λe=>?_,λe=>?_⟩,λ_=>Iff.rfl⟩,λk g=>?_,?_⟩
 ·rcases p2 cb e with q|q
  ·exact h.n2 q
  ·omega
 ·rcases p2 mb e with q|q
  ·exact h.n3 q
  ·omega
 ·rcases g with rfl|rfl|e
  ·exact .inl ((d k).2 (.inl rfl))
  ·exact .inl ((d k).2 (.inr (.inl rfl)))
  ·rcases p2 k e with q|q
   ·exact .inl ((d k).2 (.inr (.inr q)))
   ·exact .inr (Nat.le_trans hb.size q)
 ·exact(qae.ofBelow hb).trans ⟨c.os,c.tape,c.output,c.size,λk g p=>c.block k g (λe=>p ((d k).2 (.inr (.inr e))))⟩
theorem qmn.same (h:qmn w cb mb b Gw W) (c:∀k,G k↔(k=cb\/k=mb\/Gw k)) (hb:Below w.heap.size w w'):qg0 (ckP cb mb W) w G w':=
 ⟨G,⟨b,Gw,h.later hb,c⟩,λ_ d=>.inl d,qae.ofBelow hb⟩
theorem qmn.after (h:qg0 (ckP cb mb W') w G w1) (hb:Below w1.heap.size w1 w'):qg0 (ckP cb mb W') w G w':=by
 obtain⟨c,p1,p2,d⟩:=h;exact⟨c,p1.kept (λk e=>hb.block k (p1.lt k e)) hb.size,p2,d.trans (qae.ofBelow hb)⟩
end
def qkf (er:Int) (told:List UInt8) (e:Ending):Prop:=(er=0/\e=.returned (.string (bya told)))\/(er≠0/\e=qf0 er)
def qa3 (i:Nat) (W:WoS) (rest:List ByteArray) (w:World) (cb mb:Nat) (G:Nat->Prop) (e:Ending) (w':World):Prop:=
 ∃W' er told,qj4 i W rest W' er told/\qkf er told e/\qg0 (ckP cb mb W') w G w'
structure qdm (w:World) (cb mb b:Nat) (Gw G:Nat->Prop) (W:WoS) (j:Nat) (a:Option Addr) (cap:Nat) (l:List ByteArray):Prop where
 ck:qmn w cb mb b Gw W
 g:∀k,G k↔(k=cb\/k=mb\/Gw k)
 gl:Gl w
 gn:∀k,k<10->¬G k
 wi:PlI j W
 di:DkI W
 st:qiv w a cap l
 sm:∀x∈l,x.size<=1000000
variable {i:Nat} {W':WoS} {w2:World} {er:Int}
section
variable {w:World} {cb mb b j cap:Nat} {Gw G:Nat->Prop} {W:WoS} {a:Option Addr} {l:List ByteArray}
theorem qdm.no (h:qdm w cb mb b Gw G W j a cap l) (hi:i≠18) (c:qb5 (qxc i) l=none) (hb:Below w.heap.size w w'):qa3 i W l w cb mb G (qf0 3) w':=
 ⟨W,3,[],by unfold qj4;rw[if_neg hi,c];exact⟨rfl,rfl,rfl⟩,.inr ⟨by decide,rfl⟩,h.ck.same h.g hb⟩
theorem qdm.gl2 (h:qdm w cb mb b Gw G W j a cap l) (hb:Below w.heap.size w w1) (f:qd8 w1 b Gw W' w2):Gl w2:=by
 obtain⟨m,_,_,c⟩:=f;exact(h.gl.later hb).kept (λk d=>c.block k (Nat.lt_of_lt_of_le d (h.gl.later hb).sz) (λe=>h.gn k d ((h.g k).2 (.inr (.inr e))))) c.size
theorem qdm.yes {ns:List Int} {told:List UInt8} {c:World} {e:Ending} (h:qdm w cb mb b Gw G W j a cap l) (hi:i≠18) (d:qb5 (qxc i) l=some ns) (hb:Below w.heap.size w w1) (f:qd3 i W ns (l.getD 2 ⟨#[]⟩) W' er told) (k:qd8 w1 b Gw W' w2) (m:Below w2.heap.size w2 c) (o:qkf er told e):qa3 i W l w cb mb G e c:=
 ⟨W',er,told,by unfold qj4;rw[if_neg hi,d];exact f,o,qmn.after (h.ck.op h.g hb k) m⟩
end
theorem qd3.data {W:WoS} {l:List Int} {d d':ByteArray} {t:List UInt8} (hi:i≠18) (h:qd3 i W l d W' er t):qd3 i W l d' W' er t:=by
 unfold qd3 at h ⊢
 split at h<;>first|exact h|exact absurd rfl hi
end
section
open Tryz Go.RowKit Go.Maps
theorem qku:Keyed prog 9:=string_keyed underlying9
theorem qs9 {s:ByteArray} (h:s.size<=maxLen):keyOf prog 9 (.string s)=some (.string s.data.toList):=by
 unfold keyOf;rw[underlying9];simp[mapKey,h,underlying9]
theorem q27 (s:List UInt8):WideAt.IsKeyLit (.string s):=trivial
theorem qrd:∀i<19,∀j<19,qaj i=qaj j->i=j:=by decide
variable {cb n:Nat}
theorem qrf.put {D:DataW Value} (c:Tidy D) (h:qrf D cb n) (f:n<19):qrf (D.put (.string (qaj n)) (.held (doV cb n))) cb (n+1):=by
 have g:=h.no (qaj n) (λi hi e=>by have:=qrd n f i (by omega) e;omega);refine⟨?_,λi hi=>?_,λs hs=>?_⟩
 ·rw[size_put c,g.1,h.size];simp
 ·by_cases e:i=n
  ·subst e;exact⟨has_put_same c.isMap (q27 _) _,λz=>atKey_put_same c.isMap (q27 _) _ z⟩
  ·have a:(Lit.string (qaj i))≠.string (qaj n):=λd=>e (qrd i (by omega) n f (by injection d));have b:=h.has i (by omega);exact⟨by rw[has_put_other a];exact b.1,λz=>by rw[atKey_put_other a];exact b.2 z⟩
 ·have a:(Lit.string s)≠.string (qaj n):=λd=>hs n (by omega) (by injection d);have b:=h.no s (λi hi=>hs i (by omega));exact⟨by rw[has_put_other a];exact b.1,λz=>by rw[atKey_put_other a];exact b.2 z⟩
theorem qez.made (w:World) (cb:Nat):qez (w.alloc (.map #[] 0)) w.heap.size cb 0:=
 ⟨_,World.ownsMap_made w _ _ _,⟨rfl,λi hi=>absurd hi (by omega),λ_ _=>⟨rfl,λ_=>rfl⟩⟩⟩
variable {w:World} {mb:Nat}
theorem qez.put (n:Nat) (s:ByteArray) (h:qez w mb cb n) (b:n<19) (hs:s.data.toList=qaj n) (c:s.size<=maxLen):∃w',(Instr.mapUpdate 55 (.map (some mb)) (.string s) (doV cb n)).run prog w=.ok () w'/\Hid (qez w' mb cb (n+1)/\w.grownBy w' (some mb)):=by
 obtain⟨D,o,d⟩:=h;obtain⟨w',e,a,t⟩:=o.store qku underlying55 (by simp only[maxLen];omega) (qs9 c) (val:=doV cb n) (d:=.held (doV cb n)) (ps:=[]) rfl;rw[hs]at a;exact⟨w',e,⟨_,a,d.put (o.tidy qku) b⟩,t.grown⟩
theorem qa0 {a w2:World} (hb:Below n w a) (c:n<=mb) (g:a.grownBy w2 (some mb)) (d:n<=a.heap.size):Below n w w2:=
 ⟨g.os.trans hb.os,g.tape.trans hb.tape,g.output.trans hb.output,Nat.le_trans hb.size g.size,λk b=>(g.block k (by omega) (λe=>by injection e with e;omega)).trans (hb.block k b)⟩
theorem q5s (cb:Nat) (w:World):Calls prog 19 #[.pointer (some ⟨cb,0,none⟩)] w λe w'=>e=.returned (.map (some w.heap.size))/\qez w' w.heap.size cb 19/\Below w.heap.size w w':=by
 have a:Hid (qez (w.alloc (.map #[] 0)) w.heap.size cb 0/\Below w.heap.size w (w.alloc (.map #[] 0))):=⟨qez.made w cb,boxed (Below.refl _ w) _⟩;obtain⟨b,S,H⟩:=qez.put 0 ⟨#[97,98,111,114,116]⟩ a.out.1 (by omega) (by rfl) (by decide);have c:Hid (qez b w.heap.size cb 1/\Below w.heap.size w b):=⟨H.out.1,qa0 a.out.2 (Nat.le_refl _) H.out.2 a.out.2.size⟩;replace S:(Instr.mapUpdate 55 (.map (some w.heap.size)) (.string ⟨#[97,98,111,114,116]⟩) (.func (.func 46) #[.pointer (some ⟨cb,0,none⟩)] #[])).run prog (w.alloc (.map #[] 0))=.ok () b:=S;clear H a;obtain⟨w2,T,H⟩:=qez.put 1 ⟨#[97,115,107]⟩ c.out.1 (by omega) (by rfl) (by decide);have d:Hid (qez w2 w.heap.size cb 2/\Below w.heap.size w w2):=⟨H.out.1,qa0 c.out.2 (Nat.le_refl _) H.out.2 c.out.2.size⟩;replace T:(Instr.mapUpdate 55 (.map (some w.heap.size)) (.string ⟨#[97,115,107]⟩) (.func (.func 47) #[.pointer (some ⟨cb,0,none⟩)] #[])).run prog b=.ok () w2:=T;clear H c;obtain⟨g,U,H⟩:=qez.put 2 ⟨#[98,101,103,105,110]⟩ d.out.1 (by omega) (by rfl) (by decide);have h:Hid (qez g w.heap.size cb 3/\Below w.heap.size w g):=⟨H.out.1,qa0 d.out.2 (Nat.le_refl _) H.out.2 d.out.2.size⟩;replace U:(Instr.mapUpdate 55 (.map (some w.heap.size)) (.string ⟨#[98,101,103,105,110]⟩) (.func (.func 48) #[.pointer (some ⟨cb,0,none⟩)] #[])).run prog w2=.ok () g:=U;clear H d;obtain⟨i,V,H⟩:=qez.put 3 ⟨#[99,97,108,109]⟩ h.out.1 (by omega) (by rfl) (by decide);have j:Hid (qez i w.heap.size cb 4/\Below w.heap.size w i):=⟨H.out.1,qa0 h.out.2 (Nat.le_refl _) H.out.2 h.out.2.size⟩;replace V:(Instr.mapUpdate 55 (.map (some w.heap.size)) (.string ⟨#[99,97,108,109]⟩) (.func (.func 49) #[.pointer (some ⟨cb,0,none⟩)] #[])).run prog g=.ok () i:=V;clear H h;obtain⟨k,W,H⟩:=qez.put 4 ⟨#[99,108,105,101,110,116]⟩ j.out.1 (by omega) (by rfl) (by decide)
 have l:Hid (qez k w.heap.size cb 5/\Below w.heap.size w k):=⟨H.out.1,qa0 j.out.2 (Nat.le_refl _) H.out.2 j.out.2.size⟩;replace W:(Instr.mapUpdate 55 (.map (some w.heap.size)) (.string ⟨#[99,108,105,101,110,116]⟩) (.func (.func 50) #[.pointer (some ⟨cb,0,none⟩)] #[])).run prog i=.ok () k:=W;clear H j;obtain⟨m,X,H⟩:=qez.put 5 ⟨#[99,111,109,109,105,116]⟩ l.out.1 (by omega) (by rfl) (by decide);have o:Hid (qez m w.heap.size cb 6/\Below w.heap.size w m):=⟨H.out.1,qa0 l.out.2 (Nat.le_refl _) H.out.2 l.out.2.size⟩;replace X:(Instr.mapUpdate 55 (.map (some w.heap.size)) (.string ⟨#[99,111,109,109,105,116]⟩) (.func (.func 51) #[.pointer (some ⟨cb,0,none⟩)] #[])).run prog k=.ok () m:=X;clear H l;obtain⟨p,Y,H⟩:=qez.put 6 ⟨#[100,101,108,105,118,101,114]⟩ o.out.1 (by omega) (by rfl) (by decide);have q:Hid (qez p w.heap.size cb 7/\Below w.heap.size w p):=⟨H.out.1,qa0 o.out.2 (Nat.le_refl _) H.out.2 o.out.2.size⟩;replace Y:(Instr.mapUpdate 55 (.map (some w.heap.size)) (.string ⟨#[100,101,108,105,118,101,114]⟩) (.func (.func 52) #[.pointer (some ⟨cb,0,none⟩)] #[])).run prog m=.ok () p:=Y;clear H o;obtain⟨r,Z,H⟩:=qez.put 7 ⟨#[100,114,111,112]⟩ q.out.1 (by omega) (by rfl) (by decide);have s:Hid (qez r w.heap.size cb 8/\Below w.heap.size w r):=⟨H.out.1,qa0 q.out.2 (Nat.le_refl _) H.out.2 q.out.2.size⟩;replace Z:(Instr.mapUpdate 55 (.map (some w.heap.size)) (.string ⟨#[100,114,111,112]⟩) (.func (.func 53) #[.pointer (some ⟨cb,0,none⟩)] #[])).run prog p=.ok () r:=Z;clear H q;obtain⟨u,r9,H⟩:=qez.put 8 ⟨#[103,111,101,115]⟩ s.out.1 (by omega) (by rfl) (by decide);have v:Hid (qez u w.heap.size cb 9/\Below w.heap.size w u):=⟨H.out.1,qa0 s.out.2 (Nat.le_refl _) H.out.2 s.out.2.size⟩;replace r9:(Instr.mapUpdate 55 (.map (some w.heap.size)) (.string ⟨#[103,111,101,115]⟩) (.func (.func 54) #[.pointer (some ⟨cb,0,none⟩)] #[])).run prog r=.ok () u:=r9
 clear H s;obtain⟨x,r10,H⟩:=qez.put 9 ⟨#[104,101,108,112]⟩ v.out.1 (by omega) (by rfl) (by decide);have y:Hid (qez x w.heap.size cb 10/\Below w.heap.size w x):=⟨H.out.1,qa0 v.out.2 (Nat.le_refl _) H.out.2 v.out.2.size⟩;replace r10:(Instr.mapUpdate 55 (.map (some w.heap.size)) (.string ⟨#[104,101,108,112]⟩) (.func (.func 55) #[.pointer (some ⟨cb,0,none⟩)] #[])).run prog u=.ok () x:=r10;clear H v;obtain⟨z,r11,H⟩:=qez.put 10 ⟨#[108,111,115,101]⟩ y.out.1 (by omega) (by rfl) (by decide);have B:Hid (qez z w.heap.size cb 11/\Below w.heap.size w z):=⟨H.out.1,qa0 y.out.2 (Nat.le_refl _) H.out.2 y.out.2.size⟩;replace r11:(Instr.mapUpdate 55 (.map (some w.heap.size)) (.string ⟨#[108,111,115,101]⟩) (.func (.func 56) #[.pointer (some ⟨cb,0,none⟩)] #[])).run prog x=.ok () z:=r11;clear H y;obtain⟨C,r12,H⟩:=qez.put 11 ⟨#[109,97,110,121]⟩ B.out.1 (by omega) (by rfl) (by decide);have D:Hid (qez C w.heap.size cb 12/\Below w.heap.size w C):=⟨H.out.1,qa0 B.out.2 (Nat.le_refl _) H.out.2 B.out.2.size⟩;replace r12:(Instr.mapUpdate 55 (.map (some w.heap.size)) (.string ⟨#[109,97,110,121]⟩) (.func (.func 57) #[.pointer (some ⟨cb,0,none⟩)] #[])).run prog z=.ok () C:=r12;clear H B;obtain⟨E,r13,H⟩:=qez.put 12 ⟨#[109,111,118,101]⟩ D.out.1 (by omega) (by rfl) (by decide);have F:Hid (qez E w.heap.size cb 13/\Below w.heap.size w E):=⟨H.out.1,qa0 D.out.2 (Nat.le_refl _) H.out.2 D.out.2.size⟩;replace r13:(Instr.mapUpdate 55 (.map (some w.heap.size)) (.string ⟨#[109,111,118,101]⟩) (.func (.func 58) #[.pointer (some ⟨cb,0,none⟩)] #[])).run prog C=.ok () E:=r13;clear H D;obtain⟨G,r14,H⟩:=qez.put 13 ⟨#[114,101,97,100]⟩ F.out.1 (by omega) (by rfl) (by decide);have I:Hid (qez G w.heap.size cb 14/\Below w.heap.size w G):=⟨H.out.1,qa0 F.out.2 (Nat.le_refl _) H.out.2 F.out.2.size⟩
 replace r14:(Instr.mapUpdate 55 (.map (some w.heap.size)) (.string ⟨#[114,101,97,100]⟩) (.func (.func 59) #[.pointer (some ⟨cb,0,none⟩)] #[])).run prog E=.ok () G:=r14;clear H F;obtain⟨J,r15,H⟩:=qez.put 14 ⟨#[115,105,116,101]⟩ I.out.1 (by omega) (by rfl) (by decide);have K:Hid (qez J w.heap.size cb 15/\Below w.heap.size w J):=⟨H.out.1,qa0 I.out.2 (Nat.le_refl _) H.out.2 I.out.2.size⟩;replace r15:(Instr.mapUpdate 55 (.map (some w.heap.size)) (.string ⟨#[115,105,116,101]⟩) (.func (.func 60) #[.pointer (some ⟨cb,0,none⟩)] #[])).run prog G=.ok () J:=r15;clear H I;obtain⟨L,r16,H⟩:=qez.put 15 ⟨#[115,119,101,101,112]⟩ K.out.1 (by omega) (by rfl) (by decide);have M:Hid (qez L w.heap.size cb 16/\Below w.heap.size w L):=⟨H.out.1,qa0 K.out.2 (Nat.le_refl _) H.out.2 K.out.2.size⟩;replace r16:(Instr.mapUpdate 55 (.map (some w.heap.size)) (.string ⟨#[115,119,101,101,112]⟩) (.func (.func 61) #[.pointer (some ⟨cb,0,none⟩)] #[])).run prog J=.ok () L:=r16;clear H K;obtain⟨N,r17,H⟩:=qez.put 16 ⟨#[116,119,105,99,101]⟩ M.out.1 (by omega) (by rfl) (by decide);have O:Hid (qez N w.heap.size cb 17/\Below w.heap.size w N):=⟨H.out.1,qa0 M.out.2 (Nat.le_refl _) H.out.2 M.out.2.size⟩;replace r17:(Instr.mapUpdate 55 (.map (some w.heap.size)) (.string ⟨#[116,119,105,99,101]⟩) (.func (.func 62) #[.pointer (some ⟨cb,0,none⟩)] #[])).run prog L=.ok () N:=r17;clear H M;obtain⟨P,r18,H⟩:=qez.put 17 ⟨#[119,111,114,108,100]⟩ O.out.1 (by omega) (by rfl) (by decide);have Q:Hid (qez P w.heap.size cb 18/\Below w.heap.size w P):=⟨H.out.1,qa0 O.out.2 (Nat.le_refl _) H.out.2 O.out.2.size⟩;replace r18:(Instr.mapUpdate 55 (.map (some w.heap.size)) (.string ⟨#[119,111,114,108,100]⟩) (.func (.func 63) #[.pointer (some ⟨cb,0,none⟩)] #[])).run prog N=.ok () P:=r18
 clear H O;obtain⟨R,r19,H⟩:=qez.put 18 ⟨#[119,114,105,116,101]⟩ Q.out.1 (by omega) (by rfl) (by decide);have M19:Hid (qez R w.heap.size cb 19/\Below w.heap.size w R):=⟨H.out.1,qa0 Q.out.2 (Nat.le_refl _) H.out.2 Q.out.2.size⟩;replace r19:(Instr.mapUpdate 55 (.map (some w.heap.size)) (.string ⟨#[119,114,105,116,101]⟩) (.func (.func 64) #[.pointer (some ⟨cb,0,none⟩)] #[])).run prog P=.ok () R:=r19;clear H Q;have hmm:=@run_makeMap prog;go_enter func19,ntmps19
 go_wp2
 go_ret;exact⟨rfl,M19.out.1,M19.out.2⟩
end
section
open Go.RowKit Go.Maps
def qfy:List (List UInt8):=[[99],[115,115],[99],[],[99],[99],[105],[99,110],[115,110],[],[105],[],[99,115],[99,110],[115],[115],[105],[110,110],[99,110,119]]
def qaw (i:Nat):List UInt8:=qfy.getD i []
def qhc:DataW Unit:=.map ((qi0.zip qfy).map λx=>(.string x.1,.lit (.string x.2)))
def q61 (w:World) (bm:Nat):Prop:=w.ownsMap Tryz.prog 9 (plainElem Tryz.prog 9) bm 19 qhc
variable {w:World} {bm:Nat}
theorem q61.kept {w':World} (h:q61 w bm) (e:w'.heap[bm]?=w.heap[bm]?):q61 w' bm:=by
 obtain⟨es,a,hb,r⟩:=h;exact⟨es,a,by rw[e];exact hb,r⟩
theorem qx5 (w:World):(zeroValue 9).run Tryz.prog w=.ok (.string ⟨#[]⟩) w:=by kernel_rfl
theorem qyp:∀i,i<19->qhc.atKey (.string (qaj i)) .nil=.lit (.string (qaw i))
 |0,_=>rfl|1,_=>rfl|2,_=>rfl|3,_=>rfl|4,_=>rfl|5,_=>rfl|6,_=>rfl|7,_=>rfl|8,_=>rfl|9,_=>rfl
 |10,_=>rfl|11,_=>rfl|12,_=>rfl|13,_=>rfl|14,_=>rfl|15,_=>rfl|16,_=>rfl|17,_=>rfl|18,_=>rfl
 |n+19,h=>absurd h (by omega)
theorem q6x {s:List UInt8} (h:∀i,i<19->s≠qaj i):qhc.atKey (.string s) .nil=.nil:=by
 have q:((qi0.zip qfy).map λx=>((.string x.1,.lit (.string x.2)):Lit×DataW Unit)).find? (λp=>p.1.sameKey (.string s))=none:=by
  rw[List.find?_eq_none];intro x a;obtain⟨y,b,rfl⟩:=List.mem_map.1 a;obtain⟨i,hi,e⟩:=List.mem_iff_getElem.1 (List.of_mem_zip b).1;have:=h i hi
  have c:qaj i=y.1:=by unfold qaj;rw[List.getD_eq_getElem?_getD,List.getElem?_eq_getElem hi];exact e
  rw[c]at this;simp[Lit.sameKey,Ne.symm this]
 unfold qhc DataW.atKey
 dsimp only
 rw[q]
theorem qsc {v:Value} {y:DataW Unit×List MemPlace} (h:plainElem Tryz.prog 9 v=some y):∃s:ByteArray,v=.string s/\y.1=.lit (.string s.data.toList):=by
 unfold plainElem at h;rw[Tryz.underlying9]at h
 cases v<;>simp at h
 rename_i s;exact⟨s,rfl,by rw[<-h.2]⟩
variable {s:ByteArray}
theorem q61.held (h:q61 w bm) {i:Nat} (c:s.size<=maxLen) (hi:i<19) (hs:s.data.toList=qaj i):(Instr.lookup 92 (.map (some bm)) (.string s) true).run Tryz.prog w=.ok (.tuple #[.string (bya (qaw i)),.bool true]) w:=by
 obtain⟨es,j,hb,F,_,e⟩:=h;have key:=qs9 c;rcases Maps.fit_look true qku Tryz.underlying92 (qx5 w) hb F key with ⟨b,_,a⟩|⟨k,y,_,_,b,d,a,_⟩
 ·have:=a .nil;rw[<-e,hs,qyp i hi]at this;cases this
 ·have:=a .nil;rw[<-e,hs,qyp i hi]at this;obtain⟨z,f,g⟩:=qsc d;rw[g]at this;injection this with this;injection this with this;rw[b,f,if_pos rfl,this]
theorem q61.lacks (h:q61 w bm) (c:s.size<=maxLen) (hs:∀i,i<19->s.data.toList≠qaj i):(Instr.lookup 92 (.map (some bm)) (.string s) true).run Tryz.prog w=.ok (.tuple #[.string ⟨#[]⟩,.bool false]) w:=by
 obtain⟨es,g,hb,F,_,e⟩:=h;have key:=qs9 c;rcases Maps.fit_look true qku Tryz.underlying92 (qx5 w) hb F key with ⟨a,_,b⟩|⟨j,y,_,_,a,d,b,_⟩
 ·exact a
 ·have:=b .nil;rw[<-e,q6x hs]at this;obtain⟨z,k,f⟩:=qsc d;rw[f]at this;cases this
end
section
def qey:List UInt8->List ByteArray->Option (List Int)
 |[],[]=>some []
 |c::f,s::l=>if c=119 then qey f l else match qh9 s with
  |none=>none
  |some v=>match qey f l with
   |none=>none
   |some r=>some (v::r)
 |_,_=>none
theorem qo0:∀{f1:List UInt8} {l1:List ByteArray} (f2:List UInt8) (l2:List ByteArray),f1.length=l1.length->qey (f1++f2) (l1++l2)=match qey f1 l1 with
 |none=>none
 |some a=>match qey f2 l2 with
  |none=>none
  |some b=>some (a++b)
 |[],[],f2,l2,_=>by
  simp only[List.nil_append,qey]
  cases qey f2 l2<;>rfl
 |[],_::_,_,_,h=>by simp at h
 |_::_,[],_,_,h=>by simp at h
 |c::f,s::l,f2,l2,h=>by
  have d:=qo0 (f1:=f) (l1:=l) f2 l2 (by simpa using h);simp only[List.cons_append,qey];by_cases e:c=119
  ·rw[if_pos e,if_pos e,d]
  ·rw[if_neg e,if_neg e];cases qh9 s with
   |none=>rfl
   |some v=>
    simp only;rw[d];cases qey f l with
    |none=>rfl
    |some a=>
     simp only
     cases qey f2 l2<;>rfl
variable {l:List ByteArray} {ns:List Int}
theorem qft:∀{f:List UInt8},qey f l=some ns->qnn f=ns.length
 |[],[],ns,h=>by simp only[qey]at h;injection h with h;subst h;rfl
 |[],_::_,ns,h=>by simp[qey]at h
 |_::_,[],ns,h=>by simp[qey]at h
 |c::f,s::l,ns,h=>by
  simp only[qey]at h;by_cases e:c=119
  ·rw[if_pos e]at h;rw[q9v e];exact qft h
  ·rw[if_neg e]at h;rw[q3n e];cases hv:qh9 s with
   |none=>rw[hv]at h;cases h
   |some v=>
    rw[hv]at h;simp only at h;cases hr:qey f l with
    |none=>rw[hr]at h;cases h
    |some r=>
     rw[hr]at h;injection h with h;subst h;rw[qft hr];rfl
variable {f:List UInt8} {k:Nat}
theorem q1e {a:List Int} (b:f.length=l.length) (c:k<l.length) (h:qey (f.take k) (l.take k)=some a):
 qey (f.take (k+1)) (l.take (k+1))=if f[k]'(by omega)=119 then some a else match qh9 l[k]with
  |none=>none
  |some v=>some (a++[v]):=by
 have d:f.take (k+1)=f.take k++[f[k]'(by omega)]:=by rw[List.take_succ_eq_append_getElem (by omega)]
 have g:l.take (k+1)=l.take k++[l[k]]:=by rw[List.take_succ_eq_append_getElem c]
 rw[d,g,qo0 _ _ (by rw[List.length_take,List.length_take,b]),h];simp only[qey];by_cases e:f[k]'(by omega)=119
 ·rw[if_pos e,if_pos e];simp
 ·rw[if_neg e,if_neg e]
  cases qh9 l[k]<;>rfl
theorem q4y (a:f.length=l.length) (h:qey (f.take k) (l.take k)=none):qey f l=none:=by
 have:=qo0 (f1:=f.take k) (l1:=l.take k) (f.drop k) (l.drop k) (by rw[List.length_take,List.length_take,a]);rw[List.take_append_drop,List.take_append_drop,h]at this;exact this
theorem jap {p:Nat->Prop} (a:p 0) (b:p 1) (c:p 2) (d:p 3) (e:p 4) (g:p 5) (j:p 6) (m:p 7) (o:p 8) (q:p 9) (r:p 10) (s:p 11) (t:p 12) (u:p 13) (v:p 14) (w:p 15) (x:p 16) (y:p 17) (z:p 18):∀i,i<19->p i
 |0,_=>a|1,_=>b|2,_=>c|3,_=>d|4,_=>e|5,_=>g|6,_=>j|7,_=>m|8,_=>o|9,_=>q
 |10,_=>r|11,_=>s|12,_=>t|13,_=>u|14,_=>v|15,_=>w|16,_=>x|17,_=>y|18,_=>z
 |n+19,h=>absurd h (by omega)
def qc4 (i:Nat) (rest:List ByteArray):Option (List Int):=if i=18 then (if rest.length=3 then qb5 2 (rest.take 2)else none)else qb5 (qxc i) rest
theorem q2b:∀i,i<19->∀rest,qc4 i rest=if rest.length=(qaw i).length then qey (qaw i) rest else none:=by
 refine jap ?_ ?_ ?_ ?_ ?_ ?_ ?_ ?_ ?_ ?_ ?_ ?_ ?_ ?_ ?_ ?_ ?_ ?_ ?_
 all_goals
  intro rest;rcases rest with _|⟨x,_|⟨y,_|⟨z,_|⟨u,r⟩⟩⟩⟩
  all_goals first
   |rfl
   |(simp[qc4,qb5,qxc,qaw,qfy,qey,qfo];done)
variable {i:Nat} {W:WoS}
theorem qj4.no {rest:List ByteArray} (h:qc4 i rest=none):qj4 i W rest W 3 []:=by
 unfold qj4;unfold qc4 at h;rw[h];exact⟨rfl,rfl,rfl⟩
theorem qj4.yes {W':WoS} {rest:List ByteArray} {er:Int} {t:List UInt8} (h:qc4 i rest=some ns) (a:qd3 i W ns (rest.getD 2 ⟨#[]⟩) W' er t):qj4 i W rest W' er t:=by
 unfold qj4;unfold qc4 at h;rw[h];exact a
theorem q5c {d:ByteArray}:∀i,i<19->∀ns,qnn (qaw i)=ns.length->thB W (qaw i) ns=false->∃t,qd3 i W ns d W 2 t:=by
 have no:∀(n:Int) (c:Nat),inB n 0 ((c:Int)-1)=false->¬qbt n c:=λn c h q=>by
  have:=q.1;have:=q.2;simp[inB]at h;omega
 have yes:∀(n:Int) (c:Nat),qbt n c->inB n 0 ((c:Int)-1)=true:=λn c q=>by
  have:=q.1;have:=q.2;simp[inB];omega
 refine jap ?_ ?_ ?_ ?_ ?_ ?_ ?_ ?_ ?_ ?_ ?_ ?_ ?_ ?_ ?_ ?_ ?_ ?_ ?_
 all_goals
  intro ns a h;rcases ns with _|⟨x,_|⟨y,_|⟨z,r⟩⟩⟩
  all_goals first
   |(simp[qaw,qfy,qnn]at a;done)
   |(simp[qaw,qfy,thB,thC]at h;done)
   |skip
 all_goals
  simp[qaw,qfy,thB,thC]at h
  first
   |exact⟨qaj _,rfl,by rw[if_neg (λe=>by first|exact no _ _ h e|exact no _ _ h e.1|exact no _ _ (h (yes _ _ e.1)) e.2.1|exact no _ _ (h (yes _ _ e.1)) e.2)];exact⟨rfl,rfl⟩⟩
   |exact⟨[],rfl,by rw[if_neg (λe=>by first|exact no _ _ h e|exact no _ _ h e.1|exact no _ _ (h (yes _ _ e.1)) e.2.1|exact no _ _ (h (yes _ _ e.1)) e.2)];exact⟨rfl,rfl⟩⟩
   |exact⟨[],by show (if qbt x W.c then ([]:List UInt8)=qji W x.toNat/\W=wcW W x.toNat/\(2:Int)=wcE W x.toNat else ([]:List UInt8)=[]/\W=W/\(2:Int)=2);rw[if_neg (λe=>by first|exact no _ _ h e|exact no _ _ h e.1|exact no _ _ (h (yes _ _ e.1)) e.2.1|exact no _ _ (h (yes _ _ e.1)) e.2)];exact⟨rfl,rfl,rfl⟩⟩
end
section
open Go.RowKit
structure qfb (w:World) (n0 hb b:Nat) (Gw G:Nat->Prop) (W:WoS) (j:Nat) (a:Option Addr) (cap:Nat) (l:List ByteArray):Prop where
 hs:qpz w hb b Gw W
 g:∀k,G k↔(k=hb\/Gw k)
 gl:Gl w
 fm:∃bm,w.cell? ⟨0,0,none⟩=some (.map (some bm))/\q61 w bm/\bm<n0
 nn:10<=n0/\n0<=w.heap.size
 gn:∀k,k<n0->¬G k
 wi:PlI j W
 di:DkI W
 st:qiv w a cap l
 sm:∀x∈l,x.size<=1000000
 sn:∀bk o,a=some ⟨bk,o,none⟩->¬G bk
 jl:j<=1000000
def RDo (i:Nat) (W:WoS) (l:List ByteArray) (er:Int) (told:List UInt8) (w:World) (hb:Nat) (G:Nat->Prop) (w':World):Prop:=∃W' t,qj4 i W l W' er t/\(er=0->told=t)/\qg0 (hsP hb W') w G w'
def qcw (i:Nat) (W:WoS) (l:List ByteArray) (w:World) (hb:Nat) (G:Nat->Prop) (e:Ending) (w':World):Prop:=
 ∃told er,e=.returned (.tuple #[.string (bya told),.int .i64 er])/\RDo i W l er told w hb G w'
theorem qzj:∀i,i<19->(qaw i).length<=3:=jap (by decide) (by decide) (by decide) (by decide) (by decide) (by decide) (by decide) (by decide) (by decide) (by decide) (by decide) (by decide) (by decide) (by decide) (by decide) (by decide) (by decide) (by decide) (by decide)
theorem qzc:∀i,i<19->(bya (qaj i)).size<=maxLen:=jap (by decide) (by decide) (by decide) (by decide) (by decide) (by decide) (by decide) (by decide) (by decide) (by decide) (by decide) (by decide) (by decide) (by decide) (by decide) (by decide) (by decide) (by decide) (by decide)
theorem q0e:∀i,i<19->∀c∈qaw i,c.toNat<128:=jap (by decide) (by decide) (by decide) (by decide) (by decide) (by decide) (by decide) (by decide) (by decide) (by decide) (by decide) (by decide) (by decide) (by decide) (by decide) (by decide) (by decide) (by decide) (by decide)
variable {w:World} {ns:List Int}
theorem jbr {B:Nat} {v:Value} (h:w.ownsRow B 3 1 v ns.length (qin ns)):∃a cap,v=.slice a ns.length cap/\ns.length<=cap/\∀(j:Nat) x,ns[j]?=some x->∃g,a=some ⟨g,0,none⟩/\B<=g/\g<w.heap.size/\w.cell? ⟨g,j,none⟩=some (.int .i64 x):=by
 by_cases e:ns=[]
 ·subst e;rcases h.2 with ⟨c,_⟩|⟨g,cap,cur,c,_⟩
  ·exact⟨none,0,c,Nat.le_refl _,λj x d=>by simp at d⟩
  ·exact⟨_,cap,c,Nat.zero_le _,λj x d=>by simp at d⟩
 ·have k:0<ns.length:=List.length_pos_iff.2 e;obtain⟨f,m,rfl,n,o⟩:=h.form k;have p:=h.cells (g:=f) rfl;refine⟨_,m,rfl,?_,λj x d=>⟨f,rfl,n,o,?_⟩⟩
  ·rcases h.2 with ⟨h,_⟩|⟨g',s,cur,c,_,_,q,_⟩
   ·cases h
   ·cases c;exact q
  ·have:=p j (.int .i64 x) (by unfold qin;rw[List.getElem?_map,d];rfl);rcases Nat.eq_zero_or_pos j with rfl|r
   ·simpa[Addr.add]using this
   ·simpa[Addr.add,Nat.ne_of_gt r]using this
def qd1 (i hb:Nat) (a:Option Addr) (m cap:Nat) (na:Option Addr) (nn nc b:Nat) (u:Nat->Value):Array Value:=
 List.toArray (.pointer (some ⟨hb,0,none⟩)::.string (bya (qaj i))::.slice a m cap::u 3::u 4::u 5::u 6::u 7::u 8::u 9::.slice na nn nc::u 11::u 12::u 13::u 14::.pointer (some ⟨b,0,none⟩)::u 16::u 17::u 18::u 19::u 20::u 21::u 22::u 23::u 24::u 25::u 26::u 27::u 28::u 29::u 30::u 31::u 32::u 33::u 34::u 35::u 36::u 37::u 38::u 39::u 40::u 41::u 42::u 43::u 44::u 45::u 46::u 47::u 48::u 49::u 50::u 51::u 52::u 53::u 54::u 55::u 56::u 57::u 58::u 59::u 60::u 61::u 62::u 63::u 64::u 65::u 66::u 67::u 68::u 69::u 70::u 71::u 72::u 73::u 74::u 75::u 76::u 77::u 78::u 79::u 80::u 81::u 82::u 83::u 84::u 85::u 86::undef::undef::undef::undef::undef::undef::undef::undef::undef::undef::undef::undef::undef::undef::undef::undef::undef::undef::undef::undef::undef::undef::undef::undef::undef::undef::undef::undef::undef::undef::undef::undef::undef::undef::undef::undef::undef::undef::undef::undef::undef::undef::undef::undef::undef::undef::undef::undef::undef::undef::undef::undef::undef::undef::undef::undef::undef::undef::undef::undef::undef::undef::undef::undef::undef::undef::undef::undef::undef::undef::undef::undef::undef::undef::undef::undef::undef::undef::undef::undef::undef::undef::undef::undef::undef::undef::undef::undef::undef::undef::undef::undef::undef::undef::undef::undef::undef::undef::undef::undef::undef::undef::undef::undef::undef::undef::undef::undef::undef::undef::undef::undef::undef::undef::undef::undef::undef::undef::undef::undef::undef::undef::undef::undef::undef::undef::undef::undef::undef::undef::undef::undef::undef::undef::undef::undef::undef::undef::undef::undef::undef::undef::undef::undef::undef::undef::undef::undef::undef::undef::undef::undef::undef::undef::undef::undef::undef::undef::undef::undef::undef::undef::undef::undef::undef::undef::undef::undef::undef::undef::undef::undef::undef::undef::undef::undef::undef::undef::undef::undef::undef::undef::undef::undef::undef::undef::undef::undef::undef::undef::undef::undef::undef::undef::undef::undef::undef::undef::undef::undef::undef::undef::undef::undef::undef::undef::undef::undef::undef::undef::undef::undef::undef::undef::undef::undef::undef::undef::undef::undef::undef::undef::undef::undef::undef::undef::undef::undef::undef::undef::undef::undef::undef::undef::undef::undef::undef::undef::undef::undef::undef::undef::undef::undef::undef::undef::undef::undef::undef::undef::undef::undef::undef::undef::undef::undef::undef::undef::undef::undef::undef::undef::undef::undef::undef::undef::undef::undef::undef::undef::undef::undef::undef::undef::undef::undef::undef::undef::undef::undef::undef::undef::undef::undef::undef::undef::undef::undef::undef::undef::undef::undef::undef::undef::undef::undef::undef::undef::undef::undef::undef::undef::undef::undef::undef::undef::undef::undef::undef::undef::undef::undef::undef::undef::undef::undef::undef::undef::undef::undef::undef::undef::undef::undef::undef::undef::undef::undef::undef::undef::undef::undef::undef::undef::undef::undef::undef::undef::undef::undef::undef::undef::undef::undef::undef::undef::undef::undef::undef::undef::undef::undef::undef::undef::undef::undef::undef::undef::undef::undef::undef::undef::undef::undef::undef::undef::undef::undef::undef::undef::undef::undef::undef::undef::undef::undef::undef::undef::undef::undef::undef::undef::[])
noncomputable def q6p:Code:=(qg8 17 (Tryz.f16.body.getD .skip)).getD .skip
def qbr (i:Nat):Prop:=∀{w w2:World} {n0 hb b j cap nc:Nat} {Gw G:Nat->Prop} {W:WoS} {a na:Option Addr} {l:List ByteArray} {ns:List Int} (u:Nat->Value),qfb w n0 hb b Gw G W j a cap l->qc4 i l=some ns->qnn (qaw i)=ns.length->thB W (qaw i) ns=true->(i=1->∀x y,ns=[x,y]->x≠y)->jau w2 w.heap.size na nc ns->Below w.heap.size w w2->
 Code.wp Tryz.prog q6p (bodyPost Tryz.prog Tryz.f16 (qcw i W l w hb G)) ⟨qd1 i hb a l.length cap na ns.length nc b u,[]⟩ w2
theorem q91:∀i,i<19->i≠1->(qaj i==[97,115,107])=false:=jap (by decide) (by decide) (by decide) (by decide) (by decide) (by decide) (by decide) (by decide) (by decide) (by decide) (by decide) (by decide) (by decide) (by decide) (by decide) (by decide) (by decide) (by decide) (by decide)
variable {l:List ByteArray}
theorem q3w {n0 hb b j i cap:Nat} {Gw G:Nat->Prop} {W:WoS} {a:Option Addr} (hi:i<19) (ARM:qbr i) (h:qfb w n0 hb b Gw G W j a cap l):
 Calls Tryz.prog 16 #[.pointer (some ⟨hb,0,none⟩),.string (bya (qaj i)),.slice a l.length cap] w (qcw i W l w hb G):=by
 obtain⟨bm,cf,fm,_⟩:=h.fm;have LK:=fm.held (s:=bya (qaj i)) (qzc i hi) hi rfl;have HARM:Hid (qbr i):=@ARM;have o:Hid _:=h;clear h fm ARM;by_cases O:l.length=(qaw i).length
 ·obtain⟨i0,hinf,hz0,hz1,hz2⟩:=info_parts q53;have hf3:(qaw i).length<=3:=qzj i hi
  have hdo:qc4 i l=qey (qaw i) l:=by rw[q2b i hi,if_pos O]
  have E:Hid (i<19/\qc4 i l=qey (qaw i) l):=⟨hi,hdo⟩
  have hl1:((qaw i).length:Int)=l.length:=by omega
  have P:Hid _:=O;clear hdo hi O;go_enter Tryz.func16,Tryz.ntmps16
  go_wp2
  clear LK cf hl1
  go_loopw [10,44] (λnv iv wr=>∃(k:Nat) (z:Int) (ns:List Int),k<=l.length/\z=k/\iv=.int .i64 z/\Hid (qey ((qaw i).take k) (l.take k)=some ns/\wr.ownsRow w.heap.size 3 1 nv ns.length (qin ns)/\Below w.heap.size w wr)) (λ_ iv _=>l.length-(intOf iv).toNat)
  case atStart=>exact⟨0,0,[],Nat.zero_le _,rfl,rfl,by simp[qey],World.ownsRow_nil w _ _ _,Below.refl _ _⟩
  case round=>
   obtain⟨k,z,ns,hk,T,rfl,B⟩:=hrel;have HZ:Hid _:=T;by_cases Q:k<l.length
   ·have g1:z<(l.length:Int):=by omega
    have g2:0<=z:=by omega
    have g3:z.toNat=k:=by omega
    have g4:z<3:=by have:=P.out;omega
    obtain⟨x,R⟩:∃x,l[k]=x:=⟨_,rfl⟩
    have aa:x∈l:=by rw[<-R];exact List.getElem_mem Q
    obtain⟨ab,ao,rfl,hab,cx⟩:=o.out.st.cell k x (by rw[List.getElem?_eq_getElem Q,R]);have cx2:wr.cell? ⟨ab,ao+k,none⟩=some (.string x):=(B.out.2.2.cell (p:=⟨ab,ao+k,none⟩) hab).trans cx;have hcap:=o.out.st.cap
    have hkf:k<(qaw i).length:=by have:=P.out;omega
    have hkb:k<(bya (qaw i)).size:=by rw[Lib.size_eq];exact hkf
    have U:(bya (qaw i))[k]'hkb=(qaw i)[k]'hkf:=rfl;have H:=q1e P.out.symm Q B.out.1;rw[R]at H;by_cases J:(qaw i)[k]'hkf=119
    ·have hq:((((bya (qaw i))[k]'hkb).toNat:Int)==119)=true:=by rw[U,J];rfl
     rw[if_pos J]at H;have F:Hid _:=H;clear cx T U H J R aa
     go_wp2
     go_roundw
     case rel=>exact⟨k+1,z+1,ns,Q,by have:=HZ.out;omega,by go_num,F.out,B.out.2⟩
     case measure=>simp[intOf];omega
    ·have hq:((((bya (qaw i))[k]'hkb).toNat:Int)==119)=false:=by
         rw[U];exact beq_false_of_ne (λq=>J (UInt8.toNat.inj (by show (qaw i)[k].toNat=119;omega)))
     rw[if_neg J]at H;have NM:=qvs x (o.out.sm x aa) wr (o.out.gl.later B.out.2.2)
     have F:Hid (qey ((qaw i).take (k+1)) (l.take (k+1))=match qh9 x with
         |none=>none
         |some v=>some (ns++[v])):=H
     clear cx T U H J R aa
     go_wp2_with fail
     refine NM.mono ?_;rintro e w2 ⟨K,C⟩;have bw2:Below w.heap.size w w2:=qab B.out.2.2 C;cases V:qh9 x with
     |none=>
      rw[V]at K F;have he:e=.returned (.tuple #[.int .i64 0,.bool false]):=K;subst he;have D:Hid (qcw i W l w hb G (.returned (.tuple #[.string ⟨#[]⟩,.int .i64 3])) w2):=⟨[],3,rfl,W,[],qj4.no (by rw[E.out.2];exact q4y P.out.symm F.out),(λh=>by cases h),o.out.hs.same o.out.g bw2⟩;clear K F B NM
      go_wp2
      go_ret2;exact D.out
     |some v=>
      rw[V]at K F;have he:e=.returned (.tuple #[.int .i64 v,.bool true]):=K;subst he;have bz:=boxed (Below.refl _ w2) (.cells #[.int .i64 v] 3);have own2:=qjp (qjp B.out.2.1 C) bz
      have hnl:ns.length<=3:=by
           have q1:=qft B.out.1
           have q2:∀f:List UInt8,qnn f<=f.length:=λf=>by
            induction f with
            |nil=>exact Nat.le_refl _
            |cons c r ih=>unfold qnn;split<;>simp only[List.length_cons]<;>omega
           have:=q2 ((qaw i).take k);rw[List.length_take]at this;omega
      have L:Hid (Below w.heap.size w w2/\ns.length<=3):=⟨bw2,hnl⟩;have HN2:Hid _:=F.out;clear K F NM bw2 hnl
      go_wp2_with (at_builtin;refine wpList_append_lies _ rfl _ _ 69 rfl w.heap.size 3 i0 (.int .i64 0) 1 8 Tryz.underlying69 hinf hz0 hz1 hz2 rfl (by decide) _ _ _ rfl own2 ⟨w2.heap.size,0,none⟩ 1 1 [.int .i64 v] rfl rfl (World.news_of_block (heap_alloc_new w2 (.cells #[.int .i64 v] 3)))?c2 (by decide)?c3 ?c4 ?c5 _ rfl ?_)
      case c2=>intro u hu;simp at hu;subst hu;rfl
      case c3=>have:=L.out.2;unfold maxLen;omega
      case c4=>have:=L.out.2;omega
      case c5=>have:=L.out.1.size;simp;omega
      intro gb gc w3 own3 gr3 at3 lt3
      have D:Hid (w3.ownsRow w.heap.size 3 1 (.slice (some ⟨gb,0,none⟩) (ns.length+1) gc) (ns++[v]).length (qin (ns++[v]))/\Below w.heap.size w w3):=by
           refine⟨by simpa[qin]using own3,?_⟩;exact(L.out.1.alloc L.out.1.size _).grown gr3 (by have:=L.out.1.size;simp;omega) (λq e=>(own2.lt q e).1)
      clear own3 gr3 at3 lt3 own2 bz C B
      go_wp2
      go_roundw
      case rel=>exact⟨k+1,z+1,ns++[v],Q,by have:=HZ.out;omega,by go_num,HN2.out,D.out⟩
      case measure=>simp[intOf];omega
   ·have g1:¬z<(l.length:Int):=by omega
    have hkl:k=l.length:=by omega
    have hw0:=o.out.wi.wf;have hsr:=o.out.hs.later B.out.2.2
    have hns:qey (qaw i) l=some ns:=by
     have:=B.out.1;rw[hkl,List.take_length,P.out,List.take_length]at this;exact this
    obtain⟨na,nc,e10,hnc,hcells⟩:=jbr B.out.2.1;have hN:jau wr w.heap.size na nc ns:=⟨hnc,hcells⟩;have c0:=hsr.cell;have m:Hid (qey (qaw i) l=some ns/\jau wr w.heap.size na nc ns/\qpz wr hb b Gw W/\Below w.heap.size w wr):=⟨hns,hN,hsr,B.out.2.2⟩;subst e10;clear B hsr hN hns hcells T hw0;have hne:=Later.one
    have X:∀(x:Later wr) (v:Bool),thB W (qaw i) ns=v->Calls Tryz.prog 30 #[.pointer (some ⟨hb,0,none⟩),.string (bya (qaw i)),.slice na ns.length nc] x.val λe w'=>e=.returned (.bool v)/\Below x.val.heap.size x.val w':=λx v V=>by
     have:=qzo (qaw i) ns hf3 (q0e i E.out.1) (qft m.out.1) x.val (m.out.2.2.1.later x.below) o.out.wi.wf (m.out.2.1.later x.below)
     rwa [V]at this
    cases hth:thB W (qaw i) ns with
    |false=>
     have I:=λx:Later wr=>X x false hth;have M:Hid _:=hth;clear hth X
     go_upto_region 15 with fail
     refine qaa (by kernel_rfl) (by kernel_rfl) ?_
     repeat (go_big_quiet_step (first|rfl|(go_at_call 30;with_reducible exact qac (I _))))
     refine wpQuiet_nil ?_;rintro w2 ⟨⟨_,C⟩,rfl⟩
     have D:Hid (qcw i W l w hb G (.returned (.tuple #[.string ⟨#[]⟩,.int .i64 2])) w2):=by
         obtain⟨t,hc⟩:=q5c (W:=W) (d:=l.getD 2 ⟨#[]⟩) i E.out.1 ns (qft m.out.1) M.out;exact⟨[],2,rfl,W,t,qj4.yes (E.out.2.trans m.out.1) hc,(λh=>by cases h),o.out.hs.same o.out.g (qab m.out.2.2.2 C)⟩
     clear I M
     go_wp2
     go_ret2;exact D.out
    |true=>
     have I:=λx:Later wr=>X x true hth;have M:Hid _:=hth;clear hth X;by_cases Y:i=1
     ·subst Y;have Z:=qft m.out.1
      obtain⟨x,y,rfl⟩:∃x y,ns=[x,y]:=by
           rcases ns with _|⟨x,_|⟨y,_|⟨z,r⟩⟩⟩
           ·simp[qaw,qfy,qnn]at Z
           ·simp[qaw,qfy,qnn]at Z
           ·exact⟨x,y,rfl⟩
           ·simp[qaw,qfy,qnn]at Z
      obtain⟨g,rfl,_,hgl,q0⟩:=m.out.2.1.cell 0 x rfl;obtain⟨g',S,_,_,q1⟩:=m.out.2.1.cell 1 y rfl;injection S with S;injection S with S;subst S;have c1:=Later.cell q0;have c2:=Later.cell q1;have hnc:=m.out.2.1.cap
      have hq1:(qaj 1==[97,115,107])=true:=by decide
      clear q0 q1 Z;by_cases N:x=y
      ·have hxy2:(x==y)=true:=by simp[N]
       have HXY:Hid _:=N;clear N
       go_upto_region 15 with fail
       refine qaa (by kernel_rfl) (by kernel_rfl) ?_
       repeat (go_big_quiet_step (first|rfl|(go_at_call 30;with_reducible exact qac (I _))))
       refine wpQuiet_nil ?_;rintro w2 ⟨⟨_,C⟩,rfl⟩
       have D:Hid (qcw 1 W l w hb G (.returned (.tuple #[.string ⟨#[]⟩,.int .i64 2])) w2):=
           ⟨[],2,rfl,W,qaj 1,qj4.yes (E.out.2.trans m.out.1) ⟨rfl,by rw[if_neg (λe=>e.2.2 HXY.out)];exact⟨rfl,rfl⟩⟩,(λh=>by cases h),o.out.hs.same o.out.g (qab m.out.2.2.2 C)⟩
       clear I M
       go_wp2
       go_ret2;exact D.out
      ·have hxy2:(x==y)=false:=by simp[N]
       have HXY:Hid _:=N;clear N
       go_upto_region 15 with fail
       refine qaa (by kernel_rfl) (by kernel_rfl) ?_
       repeat (go_big_quiet_step (first|rfl|(go_at_call 30;with_reducible exact qac (I _))))
       refine wpQuiet_nil ?_;rintro w2 ⟨⟨_,C⟩,rfl⟩
       iterate 6 go_step
       exact HARM.out (λn=>List.getD [undef,undef,undef,_,_,_,_,_,_,_,undef,_,_,_,_,undef,_,_,_,_,_,_,_,_,_,_,_,_,_,_,_,_,_,_,_,_,_,_,_,_,_,_,_,_,_,_,_,_,_,_,_,_,_,_,_,_,_,_,_,_,_,_,_,_,_,_,_,_,_,_,_,_,_,_,_,_,_,_,_,_,_,_,_,_,_,_,_] n undef) o.out (E.out.2.trans m.out.1) (qft m.out.1) M.out (λ_ p q e=>by injection e with e1 e2;injection e2 with e2;rw[<-e1,<-e2];exact HXY.out) (m.out.2.1.later C) (qab m.out.2.2.2 C)
     ·have hq1:=q91 i E.out.1 Y;have HI1:Hid _:=Y;clear Y
      go_upto_region 15 with fail
      refine qaa (by kernel_rfl) (by kernel_rfl) ?_
      repeat (go_big_quiet_step (first|rfl|(go_at_call 30;with_reducible exact qac (I _))))
      refine wpQuiet_nil ?_;rintro w2 ⟨⟨_,C⟩,rfl⟩
      iterate 6 go_step
      exact HARM.out (λn=>List.getD [undef,undef,undef,_,_,_,_,_,_,_,undef,_,_,_,_,undef,_,_,_,_,_,_,_,_,_,_,_,_,_,_,_,_,_,_,_,_,_,_,_,_,_,_,_,_,_,_,_,_,_,_,_,_,_,_,_,_,_,_,_,_,_,_,_,_,_,_,_,_,_,_,_,_,_,_,_,_,_,_,_,_,_,_,_,_,_,_,_] n undef) o.out (E.out.2.trans m.out.1) (qft m.out.1) M.out (λe=>absurd e HI1.out) (m.out.2.1.later C) (qab m.out.2.2.2 C)
 ·have D:Hid (qcw i W l w hb G (.returned (.tuple #[.string ⟨#[]⟩,.int .i64 3])) w):=⟨[],3,rfl,W,[],qj4.no (by rw[q2b i hi,if_neg O]),(λh=>by cases h),o.out.hs.same o.out.g (Below.refl _ _)⟩
  have hl2:¬((qaw i).length:Int)=l.length:=by omega
  clear O;go_enter Tryz.func16,Tryz.ntmps16
  go_wp2
  go_ret2;exact D.out
theorem qwa (h:0=ns.length):ns=[]:=List.length_eq_zero_iff.1 h.symm
theorem qlx (h:1=ns.length):∃x,ns=[x]:=by
 rcases ns with _|⟨x,_|⟨y,r⟩⟩
 ·simp at h
 ·exact⟨x,rfl⟩
 ·simp at h
theorem qpl (h:2=ns.length):∃x y,ns=[x,y]:=by
 rcases ns with _|⟨x,_|⟨y,_|⟨z,r⟩⟩⟩
 ·simp at h
 ·simp at h
 ·exact⟨x,y,rfl⟩
 ·simp at h
theorem qcq {x:Int} {c:Nat} (h:inB x 0 ((c:Int)-1)=true):∃k:Nat,x=k/\k<c/\qbt x c/\x.toNat=k:=by
 simp[inB]at h;exact⟨x.toNat,by omega,by omega,⟨by omega,by omega⟩,rfl⟩
section
variable {w w2 w3 w4:World} {n0 hb b j i cap:Nat} {Gw G:Nat->Prop} {W W':WoS} {a:Option Addr} {l:List ByteArray} {ns:List Int} {er:Int} {t told:List UInt8}
theorem qfb.few {k:Nat} (h:qfb w n0 hb b Gw G W j a cap l) (d:k<W.c):(W.ses k).ws.length<=1000000:=Nat.le_trans (h.wi.ln k d) h.jl
theorem qfb.fin (h:qfb w n0 hb b Gw G W j a cap l) (c:qc4 i l=some ns) (d:Below w.heap.size w w2) (e:qd3 i W ns (l.getD 2 ⟨#[]⟩) W' er t) (f:er=0->told=t) (k:qfc w2 b Gw W' w3) (m:Below w3.heap.size w3 w4):qcw i W l w hb G (.returned (.tuple #[.string (bya told),.int .i64 er])) w4:=
 ⟨told,er,rfl,W',t,qj4.yes c e,f,q8z (h.hs.op h.g d k) m⟩
theorem qfb.tell (h:qfb w n0 hb b Gw G W j a cap l) (c:qc4 i l=some ns) (d:Below w.heap.size w w2) (e:qd3 i W ns (l.getD 2 ⟨#[]⟩) W er t) (f:er=0->told=t):qcw i W l w hb G (.returned (.tuple #[.string (bya told),.int .i64 er])) w2:=
 ⟨told,er,rfl,W,t,qj4.yes c e,f,h.hs.same h.g d⟩
end
theorem q7u (h:qc4 18 l=some ns):∃x y d,l=[x,y,d]:=by
 unfold qc4 at h;rw[if_pos rfl]at h;rcases l with _|⟨x,_|⟨y,_|⟨d,_|⟨z,r⟩⟩⟩⟩
 ·simp at h
 ·simp at h
 ·simp at h
 ·exact⟨x,y,d,rfl⟩
 ·simp at h
end
section
open Go.RowKit
theorem q0m {w:World} {c hb b j cap:Nat} {Gw G:Nat->Prop} {W:WoS} {a:Option Addr} {l:List ByteArray} (h:qfb w c hb b Gw G W j a cap l) (s:ByteArray) (d:s.size<=maxLen) (hs:∀i,i<19->s.data.toList≠qaj i):
 Calls Tryz.prog 16 #[.pointer (some ⟨hb,0,none⟩),.string s,.slice a l.length cap] w λe w'=>e=.returned (.tuple #[.string ⟨#[]⟩,.int .i64 3])/\w'=w:=by
 obtain⟨bm,g,fm,_⟩:=h.fm;have k:=fm.lacks d hs;clear h fm hs;go_enter Tryz.func16,Tryz.ntmps16
 go_wp2
 go_ret2;exact⟨rfl,rfl⟩
end
section
open Go.Lib
def wds:List UInt8->List UInt8->List (List UInt8)
 |cur,[]=>if cur=[]then []else [cur]
 |cur,c::r=>if c=32 then (if cur=[]then wds [] r else cur::wds [] r)else wds (cur++[c]) r
theorem qyg:∀(k:Nat) (cur l:List UInt8),k<=l.length->(∀j,j<k->l.getD j 0≠32)->wds cur l=wds (cur++l.take k) (l.drop k)
 |0,cur,l,_,_=>by simp
 |k+1,cur,[],h,_=>by simp at h
 |k+1,cur,b::t,h,hz=>by
  have a:b≠32:=hz 0 (by omega)
  have e:wds cur (b::t)=wds (cur++[b]) t:=by rw[wds,if_neg a]
  rw[e,qyg k (cur++[b]) t (by simp at h;omega) (λj c=>hz (j+1) (by omega))];simp
theorem qjv (c:UInt8) (s:List UInt8):qcv c s≠[]:=by
 cases s with
 |nil=>simp[qcv]
 |cons x r=>
  unfold qcv;split
  ·simp
  ·split<;>simp
theorem q8a (l:List UInt8):∀cur h t,qcv 32 l=h::t->wds cur l=((cur++h)::t).filter (λx=>decide (x≠[])):=by
 induction l with
 |nil=>
  intro cur h t e;cases e;unfold wds
  by_cases q:cur=[]<;>simp[q]
 |cons c r ih=>
  intro cur h t e;unfold qcv at e;unfold wds
  obtain⟨f,g,d⟩:∃f g,qcv 32 r=f::g:=by
   cases q:qcv 32 r with
   |nil=>exact absurd q (qjv _ _)
   |cons a b=>exact⟨a,b,rfl⟩
  by_cases i:c=32
  ·rw[if_pos i]at e ⊢;injection e with e1 e2;subst e1 e2;have:=ih [] f g d;by_cases q:cur=[]
   ·rw[if_pos q,this,d,q];simp
   ·rw[if_neg q,this,d];simp[q]
  ·rw[if_neg i,d]at e;rw[if_neg i];injection e with e1 e2;subst e1 e2;rw[ih (cur++[c]) f g d];simp
theorem q08 (s:ByteArray) (a:Nat) (h:a<s.size):if (Utf8.decode s a).1=32 then (s.data.toList.drop a=32::s.data.toList.drop (a+1)/\(Utf8.decode s a).2=1)else ∀j,j<(Utf8.decode s a).2->(s.data.toList.drop a).getD j 0≠32:=by
 have i:a<s.data.toList.length:=by rw[<-size_eq];exact h
 have l:s.data.toList.getD a 0=s.data.toList[a]:=by rw[List.getD_eq_getElem?_getD,List.getElem?_eq_getElem i];rfl
 have m:∀b:UInt8,b.toNat=32->b=32:=λb hb=>UInt8.toNat.inj (by rw[hb];rfl);have f:=decodeN_cases (s.data.toList.length-a) (s.data.toList.getD a 0).toNat (s.data.toList.getD (a+1) 0).toNat (s.data.toList.getD (a+2) 0).toNat (s.data.toList.getD (a+3) 0).toNat;have c:=decodeN_conts (s.data.toList.length-a) (s.data.toList.getD a 0).toNat (s.data.toList.getD (a+1) 0).toNat (s.data.toList.getD (a+2) 0).toNat (s.data.toList.getD (a+3) 0).toNat
 have g:(s.data.toList.getD a 0).toNat=32->(Utf8.decode s a).1=32:=λq=>by rw[decode_N,q];simp[decodeN]
 rw[<-decode_N]at f c
 generalize Utf8.decode s a=d at f c g
 obtain⟨r,k⟩:=d;simp only[Prod.mk.injEq]at f c g ⊢;by_cases e:r=32
 ·rw[if_pos e];subst e
  have q:(s.data.toList.getD a 0).toNat=32/\k=1:=by omega
  refine⟨?_,q.2⟩;rw[List.drop_eq_getElem_cons i,<-l,m _ q.1]
 ·rw[if_neg e];intro j o;rw[getD_dropU];intro n
  have hb:(s.data.toList.getD (a+j) 0).toNat=32:=by rw[n];rfl
  obtain⟨c2,c3,c4,c5⟩:=c;rcases j with _|_|_|_|j
  ·exact e (g hb)
  ·have:=c2 (by omega);simp only[Nat.zero_add]at hb;omega
  ·have:=c3 (by omega);simp only[Nat.zero_add,Nat.reduceAdd]at hb;omega
  ·have:=c4 (by omega);simp only[Nat.zero_add,Nat.reduceAdd]at hb;omega
  ·omega
theorem qjm (s:ByteArray):∀(f c:Nat) (st:Option Nat) (g:List (Nat×Nat)),s.size<=c+f->c<=s.size->(∀a,st=some a->a<c)->
 g.map (λp=>pieceU s.data.toList p.1 p.2)++wds (openPiece s.data.toList st c) (s.data.toList.drop c)=(closeSpans s (spansFromP (λr=>decide (r=32)) s f c st g)).map (λp=>pieceU s.data.toList p.1 p.2)
 |0,c,st,g,h,hp,hst=>by
  obtain rfl:c=s.size:=by omega
  have k:s.data.toList.drop s.size=[]:=List.drop_eq_nil_of_le (by rw[<-size_eq];exact Nat.le_refl _);rw[k,wds];cases st with
  |none=>simp[spansFromP,closeSpans,openPiece]
  |some a=>
   have:=pieceU_ne s.data.toList a s.size (hst a rfl) (by rw[<-size_eq];exact Nat.le_refl _);simp[spansFromP,closeSpans,openPiece,this]
 |f+1,c,st,g,h,hp,hst=>by
  by_cases l:c<s.size
  ·have o:=width_pos s c
   have m:c+(Utf8.decode s c).2<=s.size:=by
    have:=decodeN_le_n' (s.size-c) (s.get! c).toNat (s.get! (c+1)).toNat (s.get! (c+2)).toNat (s.get! (c+3)).toNat (by omega);rw[<-decode_at]at this;omega
   have i:=q08 s c l;simp only[spansFromP,if_pos l];by_cases j:(Utf8.decode s c).1=32
   ·rw[if_pos j]at i;rw[if_pos (decide_eq_true j),i.1,i.2,wds,if_pos rfl];cases st with
    |none=>
     have d:=qjm s f (c+1) none g (by omega) (by omega) (λa h=>by cases h);simpa[openPiece]using d
    |some a=>
     have n:=pieceU_ne s.data.toList a c (hst a rfl) (by rw[<-size_eq];omega);have d:=qjm s f (c+1) none (g++[(a,c)]) (by omega) (by omega) (λa h=>by cases h);simpa[openPiece,n]using d
   ·rw[if_neg j]at i;rw[if_neg (by simpa using j),qyg _ _ _ (by rw[List.length_drop,<-size_eq];omega) i,List.drop_drop];cases st with
    |none=>
     have d:=qjm s f (c+(Utf8.decode s c).2) (some c) g (by omega) m (λa h=>by cases h;omega)
     have e:([]:List UInt8)++(s.data.toList.drop c).take (Utf8.decode s c).2=pieceU s.data.toList c (c+(Utf8.decode s c).2):=by
       unfold pieceU;rw[List.nil_append,Nat.add_sub_cancel_left]
     simp only[openPiece]at d ⊢;rw[e];exact d
    |some a=>
     have d:=qjm s f (c+(Utf8.decode s c).2) (some a) g (by omega) m (λb h=>by cases h;have:=hst a rfl;omega);simp only[openPiece]at d ⊢;rw[pieceU_grow _ _ _ _ (Nat.le_of_lt (hst a rfl))];exact d
  ·obtain rfl:c=s.size:=by omega
   have k:s.data.toList.drop s.size=[]:=List.drop_eq_nil_of_le (by rw[<-size_eq];exact Nat.le_refl _);rw[k,wds,spansFromP_end _ s _ _ _ _ l];cases st with
   |none=>simp[closeSpans,openPiece]
   |some a=>
    have:=pieceU_ne s.data.toList a s.size (hst a rfl) (by rw[<-size_eq];exact Nat.le_refl _);simp[closeSpans,openPiece,this]
theorem qwf (s:ByteArray):qc3 s=((qcv 32 s.data.toList).filter (λx=>decide (x≠[]))).map bya:=by
 have h:=qjm s s.size 0 none [] (by omega) (Nat.zero_le _) (λa h=>by cases h);simp only[List.map_nil,List.nil_append,openPiece,List.drop_zero]at h
 obtain⟨c,d,e⟩:∃c d,qcv 32 s.data.toList=c::d:=by
  cases q:qcv 32 s.data.toList with
  |nil=>exact absurd q (qjv _ _)
  |cons a b=>exact⟨a,b,rfl⟩
 rw[q8a _ [] c d e,List.nil_append,<-e]at h;unfold qc3 goFieldsP spansOfP;rw[h,List.map_map]
 congr 1
 funext p
 have q:(s.extract p.1 p.2).data.toList=pieceU s.data.toList p.1 p.2:=by simp[pieceU]
 show s.extract p.1 p.2=bya (pieceU s.data.toList p.1 p.2);rw[<-q]
theorem q2w (s t:List UInt8):qcv 10 (s++10::t)=qcv 10 s++qcv 10 t:=by
 rw[<-qii,<-qii,<-qii,qzg]
theorem qq0:∀(s:List UInt8) (x:UInt8),x≠10->(qcv 10 (s++[x])).getLast?≠some []
 |[],x,h=>by simp[qcv,h]
 |c::r,x,h=>by
  have d:=qq0 r x h;rw[List.cons_append];unfold qcv;by_cases e:c=10
  ·rw[if_pos e,List.getLast?_cons];cases q:qcv 10 (r++[x])with
   |nil=>exact absurd q (qjv _ _)
   |cons a b=>rw[q]at d;simpa[List.getLast?_cons]using d
  ·rw[if_neg e];cases q:qcv 10 (r++[x])with
   |nil=>exact absurd q (qjv _ _)
   |cons a b=>
    rw[q]at d;cases b with
    |nil=>simp
    |cons y z=>simpa[List.getLast?_cons]using d
theorem qxf (s:List UInt8):qgn s=if 1<(qcv 10 s).length/\(qcv 10 s).getLast?=some []then (qcv 10 s).dropLast else qcv 10 s:=by
 unfold qgn;rw[qii];rcases List.eq_nil_or_concat s with rfl|⟨a,x,rfl⟩
 ·simp[Lib.trimSuffix,Lib.hasSuffix,qcv]
 ·rw[List.concat_eq_append];by_cases e:x=10
  ·subst e;rw[qwg,q2w];have b:0<(qcv 10 a).length:=List.length_pos_iff.2 (qjv _ _);rw[if_pos ⟨by simp[qcv];omega,by simp[qcv]⟩];simp[qcv]
  ·have:=qq0 a x e;rw[if_neg (λq=>this q.2)]
   congr 1
   have q:=q9a a [x] (by simp);rw[q];unfold Lib.trimSuffix;rw[if_neg (by simp[Lib.hasSuffix,List.isSuffixOf,List.isPrefixOf];exact λh=>e h.symm)]
end
section
open Go.RowKit Go.Lib
theorem qwd (x:Nat) (w:World):Calls Tryz.prog 71 #[.int .i32 (x:Int)] w λe w'=>e=.returned (.bool (decide (x=32)))/\w'=w:=by
 have h:((x:Int)==32)=decide (x=32):=by rw[Bool.eq_iff_iff,beq_iff_eq,decide_eq_true_eq];omega
 go_enter Tryz.func71,Tryz.ntmps71
 go_wp2
 go_ret;exact⟨rfl,rfl⟩
theorem ql5 (s:ByteArray) (hs:s.size<=4294967296) (w:World):Calls Tryz.prog 26 #[.string s] w λe w'=>∃A,e=.returned (.slice (some ⟨A,0,none⟩) (qc3 s).length (qc3 s).length)/\w.heap.size<=A/\qiv w' (some ⟨A,0,none⟩) (qc3 s).length (qc3 s)/\Below w.heap.size w w':=by
 have b:=Tryz.strings_FieldsFunc_runes 71 #[] (λargs w=>by kernel_rfl) (λr=>decide (r=32)) s w hs (λW x _ _=>(qwd x W).mono λe w' ⟨d,g⟩=>⟨d,0,g⟩);go_enter Tryz.func26,Tryz.ntmps26
 go_wp2_with fail
 refine b.mono ?_;rintro e h ⟨A,rfl,i,a,hb⟩
 have k:Hid (qiv h (some ⟨A,0,none⟩) (qc3 s).length (qc3 s)):=⟨Nat.le_refl _,λj x c=>⟨A,0,rfl,(a.lt A rfl).2,by
  have l:j<(qc3 s).length:=(List.getElem?_eq_some_iff.1 c).1;rw[Nat.zero_add,a.cellAt j (by rw[Nat.mul_one];exact l),List.getElem?_map];show Option.map _ (qc3 s)[j]?=_
  rw[c];rfl⟩⟩
 clear a b
 go_wp2
 go_ret;exact⟨A,rfl,i,k.out,hb⟩
end
section
open Go.RowKit
theorem qre (p:Addr) (w:World):
 CallsD Tryz.prog 25 #[.pointer (some p)] .returning w λe a w'=>e=.returned (.tuple #[])/\a=.returning/\w'=w:=by
 have b:∀w,(Instr.typeAssert .nilIface 20 26 true).run Tryz.prog w=.ok (.tuple #[.int .i64 0,.bool false]) w:=λ_=>by kernel_rfl
 refine callsD_of_wpS Tryz.func25 rfl λc g d=>?_
 apply wpS_seq
 apply wpS_region
 simp[wpOpsS,go_sem,recoverD,d,Tryz.ntmps25,Exit.thenS,b]
 apply wpS_seq
 apply wpS_region
 simp[wpOpsS,go_sem,Exit.thenS];refine wpS_cond (t:=false) (by simp[Act.eval,Array.replicate]) ?_;simp only[Bool.false_eq_true,if_false];refine wpS_of_wp (wp_skip ?_);cases c
 simp_all [bodyPostS,results,Tryz.results25]
theorem qot (p:Addr) (s:Value) (n:Int) (d:wfI n) (a:List PanicEntry) (w:World) (g:Gl w) (b:w.cell? p=some s) (h:w.frozen? p=false):
 CallsD Tryz.prog 25 #[.pointer (some p)] (.panicking ({v:=.iface 26 (.int .i64 n),recovered:=false}::a)) w λe i w'=>
  e=.returned (.tuple #[])/\i=.panicking ({v:=.iface 26 (.int .i64 n),recovered:=true}::a)/\∃w2,Below w.heap.size w w2/\w'=w2.setCell p (.string (bya (qpn n))):=by
 have j:∀w,(Instr.typeAssert (.iface 26 (.int .i64 n)) 20 26 true).run Tryz.prog w=.ok (.tuple #[.int .i64 n,.bool true]) w:=λ_=>by kernel_rfl
 have k:=quf n d w g;refine callsD_of_wpS Tryz.func25 rfl λm o l=>?_
 apply wpS_seq
 apply wpS_region
 simp[wpOpsS,go_sem,recoverD,l,Tryz.ntmps25,Exit.thenS,j]
 apply wpS_seq
 apply wpS_region
 simp[wpOpsS,go_sem,Exit.thenS];refine wpS_cond (t:=true) (by simp[Act.eval,Array.replicate]) ?_;simp only[if_true];refine wpS_of_wp ?_;simp only[Array.replicate,List.replicate,List.setIfInBounds_toArray,List.set_cons_zero,List.set_cons_succ,List.append_toArray,List.cons_append,List.nil_append]
 go_wp2_with fail
 refine k.mono ?_;rintro e w2 ⟨rfl,hb⟩;have c:p.block<w.heap.size:=World.block_lt_of_cell? _ _ b;have q:w2.cell? p=some s:=(hb.cell c).trans b;have r:w2.frozen? p=false:=(hb.frozen c).trans h
 go_wp2
 simp[bodyPostS,results,Tryz.results25];exact⟨w2,hb,rfl⟩
end
section
open Tryz Go.RowKit
section
variable {cb mb b j cap:Nat} {Gw G:Nat->Prop} {W:WoS} {a:Option Addr} {l:List ByteArray}
theorem jbt (w:World) (h:qdm w cb mb b Gw G W j a cap l):Calls prog 53 #[.pointer (some ⟨cb,0,none⟩),.slice a l.length cap] w (qa3 7 W l w cb mb G):=by
 have c:Hid _:=h;have s:=qle h.sm w h.gl h.st;clear h;go_enter func53,ntmps53
 go_wp2_with fail
 refine s.mono ?_;rintro e t ⟨d,(⟨u,v,m,rfl⟩|⟨m,rfl⟩)⟩
 ·have c1:=(c.out.ck.later d).cell0;have p:=q94 u v t (c.out.ck.later d).pw
  go_wp2_with fail
  refine p.mono ?_;rintro e w2 ⟨W',er,q,rfl,n⟩;have r:=qcp er w2 (c.out.gl2 d n);have o:Hid (∀e g,Below w2.heap.size w2 g->qkf er (qaj 7) e->qa3 7 W l w cb mb G e g):=λe g i x=>c.out.yes (by decide) m.out d (q.data (by decide)) n i x;clear q n c1 p
  go_wp2_with fail
  refine r.mono ?_;rintro e g ⟨i,(⟨k,rfl⟩|⟨k,rfl⟩)⟩
  ·have y:=o.out _ _ i (.inl ⟨k,rfl⟩);clear k o r
   go_wp2
   go_ret;exact y
  ·exact⟨rfl,o.out _ _ i (.inr ⟨k,rfl⟩)⟩
 ·exact⟨rfl,c.out.no (by decide) m.out d⟩
theorem jb3 (w:World) (h:qdm w cb mb b Gw G W j a cap l):Calls prog 49 #[.pointer (some ⟨cb,0,none⟩),.slice a l.length cap] w (qa3 3 W l w cb mb G):=by
 have c:Hid _:=h;have n:=qr5 h.sm w h.gl h.st;clear h;go_enter func49,ntmps49
 go_wp2_with fail
 refine n.mono ?_;rintro e o ⟨d,(⟨g,rfl⟩|⟨g,rfl⟩)⟩
 ·have c1:=(c.out.ck.later d).cell0;have i:=jaj o (c.out.ck.later d).pw c.out.wi.wf
  go_wp2_with fail
  refine i.mono ?_;rintro e w2 ⟨rfl,W',k,m⟩;have p:qa3 3 W l w cb mb G (.returned (.string (bya (qaj 3)))) w2:=c.out.yes (ns:=[]) (by decide) g.out d ⟨rfl,k.out.1,rfl⟩ m (Below.refl _ _) (.inl ⟨rfl,rfl⟩);clear k m c1 i
  go_wp2
  go_ret;exact p
 ·exact⟨rfl,c.out.no (by decide) g.out d⟩
end
def q4j (cb:Nat) (mv:Value) (n c:Int) (w:World) (e:Ending) (w':World):Prop:=
 (((1<=n/\n<=4)/\(0<=c/\c<=6))/\e=.returned (.tuple #[])/\∃b' G',w'.heap[cb]?=some (.cells #[.pointer (some ⟨b',0,none⟩),mv] 57 (0,0))/\PW w' b' G' (qhk n.toNat c.toNat)/\(∀k,G' k->w.heap.size<=k)/\qae (λk=>k=cb) w w')
 \/(¬((1<=n/\n<=4)/\(0<=c/\c<=6))/\e=qf0 2/\Below w.heap.size w w')
theorem qlo {cb:Nat} {p s:Value} (n c:Int) (w:World) (u:w.heap[cb]?=some (.cells #[p,s] 57 (0,0))) (g:Gl w):
 Calls prog 20 #[.pointer (some ⟨cb,0,none⟩),.int .i64 n,.int .i64 c] w (q4j cb s n c w):=by
 have C:cb<w.heap.size:=(Array.getElem?_eq_some_iff.1 u).1;by_cases h:(1<=n/\n<=4)/\(0<=c/\c<=6)
 ·obtain⟨i,rfl⟩:∃i:Nat,n=i:=⟨n.toNat,by omega⟩;obtain⟨k,rfl⟩:∃k:Nat,c=k:=⟨c.toNat,by omega⟩;have v:=jde (n:=i) (c:=k) (by omega) (by omega) (by omega) w;have d:Hid (((1<=(i:Int)/\(i:Int)<=4)/\(0<=(k:Int)/\(k:Int)<=6))/\w.heap[cb]?=some (.cells #[p,s] 57 (0,0))/\Gl w):=⟨h,u,g⟩;clear h u g;go_enter func20,ntmps20
  go_wp2_with fail
  refine v.mono ?_;rintro e y ⟨rfl,F,D,z,hb⟩;have E:=(hb.block cb C).trans d.out.2.1;have m:=qcp 0 y (d.out.2.2.later hb);rw[show qbq 0=Value.nilIface from rfl]at m
  go_wp2_with fail
  refine m.mono ?_;rintro e w2 ⟨o,(⟨_,rfl⟩|⟨B,_⟩)⟩
  ·have x:=(o.block cb (Nat.lt_of_lt_of_le C hb.size)).trans E
   have c0:w2.cell? ⟨cb,0,none⟩=some p:=by rw[Lib.cell_of_heap x];rfl
   have f0:w2.frozen? ⟨cb,0,none⟩=false:=Lib.frozen_of_heap x 0
   have H:Hid (q4j cb s i k w (.returned (.tuple #[])) (w2.setCell ⟨cb,0,none⟩ (.pointer (some ⟨w.heap.size,0,none⟩)))):=by
        have r:=qab hb o;refine .inl ⟨d.out.1,rfl,w.heap.size,F,by simp[World.setCell,Array.getElem?_modify,x],?_,z,r.os,r.tape,r.output,by simp[World.setCell];exact r.size,λq I J=>(Below.heap_setCell _ _ _ _ J).trans (r.block q I)⟩;rw[Int.toNat_natCast,Int.toNat_natCast];exact(D.later o).kept (λq e=>Below.heap_setCell _ _ _ _ (λK=>by have:=z q e;have:q=cb:=K;omega)) (by simp[World.setCell])
   clear x o E hb D z m v
   go_wp2
   go_end0;exact H.out
  ·exact absurd rfl B
 ·have v:=q1z h w;have d:Hid (¬((1<=n/\n<=4)/\(0<=c/\c<=6))/\Gl w):=⟨h,g⟩;clear h u g;go_enter func20,ntmps20
  go_wp2_with fail
  refine v.mono ?_;rintro e y ⟨rfl,hb⟩;have m:=qcp 2 y (d.out.2.later hb)
  generalize qbq 2=ev at m
  go_wp2_with fail
  refine m.mono ?_;rintro e w2 ⟨o,(⟨B,_⟩|⟨_,rfl⟩)⟩
  ·exact absurd B (by decide)
  ·exact⟨rfl,.inr ⟨d.out.1,rfl,qab hb o⟩⟩
section
variable {cb mb b j cap:Nat} {Gw G:Nat->Prop} {W:WoS} {a:Option Addr} {l:List ByteArray}
theorem q8k (w:World) (h:qdm w cb mb b Gw G W j a cap l):Calls prog 63 #[.pointer (some ⟨cb,0,none⟩),.slice a l.length cap] w (qa3 17 W l w cb mb G):=by
 have c:Hid _:=h;have y:=qle h.sm w h.gl h.st;clear h;go_enter func63,ntmps63
 go_wp2_with fail
 refine y.mono ?_;rintro e z ⟨d,(⟨u,v,n,rfl⟩|⟨n,rfl⟩)⟩
 ·have r:=qlo u v z (c.out.ck.later d).box (c.out.gl.later d)
  go_wp2_with fail
  refine r.mono ?_;rintro e w2 (⟨p,rfl,B,s,t,x,o,i⟩|⟨p,rfl,C⟩)
  ·have D:qa3 17 W l w cb mb G (.returned (.string (bya (qaj 17)))) w2:=by
        have m:=c.out.ck.later d;have lc:=m.ltc;have lm:=m.map.lt;refine⟨qhk u.toNat v.toNat,0,qaj 17,by unfold qj4;rw[if_neg (by decide),show qb5 (qxc 17) l=some [u,v]from n.out];exact⟨rfl,by rw[if_pos p];exact⟨rfl,rfl⟩⟩,.inl ⟨rfl,rfl⟩,λk=>k=cb\/k=mb\/s k,⟨B,s,⟨t,m.map.kept (i.block mb lm (λe=>m.n1 e.symm)),x,m.n1,λe=>by have:=o cb e;omega,λe=>by have:=o mb e;omega⟩,λ_=>Iff.rfl⟩,λk q=>?_,(qae.ofBelow d).trans ⟨i.os,i.tape,i.output,i.size,λk q E=>i.block k q (λe=>E ((c.out.g k).2 (.inl e)))⟩⟩;rcases q with rfl|rfl|e
        ·exact .inl ((c.out.g k).2 (.inl rfl))
        ·exact .inl ((c.out.g k).2 (.inr (.inl rfl)))
        ·exact .inr (Nat.le_trans d.size (o k e))
   clear t x o i r
   go_wp2
   go_ret;exact D
  ·exact⟨rfl,c.out.yes (W':=W) (er:=2) (told:=qaj 17) (by decide) n.out d ⟨rfl,by rw[if_neg p];exact⟨rfl,rfl⟩⟩ (qd8.same (c.out.ck.later d).pw (Below.refl _ _)) C (.inr ⟨by decide,rfl⟩)⟩
 ·exact⟨rfl,c.out.no (by decide) n.out d⟩
end
end
section
open Go.RowKit
section
variable {cb mb b j cap:Nat} {Gw G:Nat->Prop} {W:WoS} {a:Option Addr} {l:List ByteArray}
theorem qxu {w w':World} (h:qdm w cb mb b Gw G W j a cap l) (c:(if l.length=3 then qb5 2 (l.take 2)else none)=none) (hb:Below w.heap.size w w'):qa3 18 W l w cb mb G (qf0 3) w':=
 ⟨W,3,[],by unfold qj4;rw[if_pos rfl,c];exact⟨rfl,rfl,rfl⟩,.inr ⟨by decide,rfl⟩,h.ck.same h.g hb⟩
theorem qwr {r:List ByteArray} (h:r.length=3):∃x y z,r=[x,y,z]:=by
 match r,h with
 |[x,y,z],_=>exact⟨x,y,z,rfl⟩
theorem q8v (w:World) (h:qdm w cb mb b Gw G W j a cap l):Calls Tryz.prog 64 #[.pointer (some ⟨cb,0,none⟩),.slice a l.length cap] w (qa3 18 W l w cb mb G):=by
 by_cases o:l.length=3
 ·obtain⟨x,y,z,rfl⟩:=qwr o;clear o;have d:Hid _:=h;obtain⟨C,D,rfl,P,Q⟩:=h.st.cell 2 z rfl;have T:3<=cap:=h.st.cap
  have I:qiv w (some ⟨C,D,none⟩) cap [x,y]:=⟨by have:=h.st.cap;simp at this ⊢;omega,λq s k=>h.st.cell q s (by
   match q,k with
   |0,k=>exact k
   |1,k=>exact k)⟩
  have J:=qle (l:=[x,y]) (λs hs=>h.sm s (by simp at hs ⊢;rcases hs with rfl|rfl<;>simp)) w h.gl I;clear h I
  dsimp only[List.length_cons,List.length_nil,Nat.reduceAdd]at J ⊢
  go_enter Tryz.func64,Tryz.ntmps64
  go_wp2_with fail
  refine J.mono ?_;rintro e m ⟨n,(⟨u,v,E,rfl⟩|⟨E,rfl⟩)⟩
  rotate_left
  ·exact⟨rfl,qxu d.out (by rw[if_pos (show [x,y,z].length=3 from rfl)];exact E.out) n⟩
  have c1:m.drew.cell? ⟨cb,0,none⟩=some (.pointer (some ⟨b,0,none⟩)):=(d.out.ck.later n).cell0;have c2:m.drew.cell? ⟨C,D+2,none⟩=some (.string z):=(n.cell (p:=⟨C,D+2,none⟩) P).trans Q;have L:=q7p u v z m.drew ((d.out.ck.later n).pw.later (Below.refl _ m).drew);have M:Below w.heap.size w m.drew:=n.drew
  go_wp2
  refine wp_region_any (by kernel_rfl) ?_;change wpAny _ _ _ _ _ _ _ (World.drew _);refine wpAny_take (i:=0) (v:=?_) rfl (by kernel_rfl) (by kernel_rfl) (by kernel_rfl) (λ_ _ _ h=>h) (Or.inl ⟨by rfl,?_⟩) ?_
  rotate_left
  ·intro w0;first|(go_simp;done)|(go_simp;with_reducible rfl)
  go_simp
  refine wpAny_take (i:=1) (v:=?_) rfl (by kernel_rfl) (by kernel_rfl) (by kernel_rfl) (λ_ _ _ h=>h) (Or.inl ⟨by rfl,?_⟩) ?_
  rotate_left
  ·intro w0;first|(go_simp;done)|(go_simp;with_reducible rfl)
  go_simp
  refine wpAny_take (i:=2) (v:=?_) rfl (by kernel_rfl) (by kernel_rfl) (by kernel_rfl) (λ_ _ _ h=>h) (Or.inl ⟨by rfl,?_⟩) ?_
  rotate_left
  ·intro w0;first|(go_simp;done)|(go_simp;with_reducible rfl)
  go_simp
  refine wpAny_take (i:=4) (v:=?_) rfl (by kernel_rfl) (by kernel_rfl) (by kernel_rfl) (λ_ _ _ h=>h) (Or.inl ⟨by rfl,?_⟩) ?_
  rotate_left
  ·intro w0;first|(go_simp;done)|(go_simp;with_reducible rfl)
  go_simp
  refine wpAny_take (i:=5) (v:=?_) rfl (by kernel_rfl) (by kernel_rfl) (by kernel_rfl) (λ_ _ _ h=>h) (Or.inl ⟨by rfl,?_⟩) ?_
  rotate_left
  ·intro w0;first|(go_simp;done)|(go_simp;with_reducible rfl)
  go_simp
  refine wpAny_take (i:=6) (v:=?_) rfl (by kernel_rfl) (by kernel_rfl) (by kernel_rfl) (λ_ _ _ h=>h) (Or.inl ⟨by rfl,?_⟩) ?_
  rotate_left
  ·intro w0;first|(go_simp;done)|(go_simp;with_reducible rfl)
  go_simp
  refine wpAny_take (i:=7) (v:=?_) rfl (by kernel_rfl) (by kernel_rfl) (by kernel_rfl) (λ_ _ _ h=>h) (Or.inl ⟨by rfl,?_⟩) ?_
  rotate_left
  ·intro w0;first|(go_simp;done)|(go_simp;with_reducible rfl)
  go_simp
  refine wpAny_ready (rs:=[3,8]) (by kernel_rfl) (by simp) ?_;refine AllReady.cons rfl (λK c=>?_) (AllReady.cons rfl (λK c=>?_) AllReady.nil)
  dsimp only[List.getElem_toArray,List.getElem_cons_succ,List.getElem_cons_zero]
  go_simp
  refine c _ _ ?_;clear c K;refine wpAny_ready (rs:=[8]) (by kernel_rfl) (by simp) ?_;refine AllReady.cons rfl (λK c=>?_) AllReady.nil
  dsimp only[List.getElem_toArray,List.getElem_cons_succ,List.getElem_cons_zero]
  go_simp
  refine c _ _ ?_;clear c K;refine wpAny_take (i:=9) (v:=?_) rfl (by kernel_rfl) (by kernel_rfl) (by kernel_rfl) (λ_ _ _ h=>h) (Or.inl ⟨by rfl,?_⟩) ?_
  rotate_left
  ·intro w0;first|(go_simp;done)|(go_simp;with_reducible rfl)
  go_simp
  rotate_left
  dsimp only[List.getElem_toArray,List.getElem_cons_succ,List.getElem_cons_zero]
  go_simp
  refine c _ _ ?_;clear c K;refine wpAny_take (i:=9) (v:=?_) rfl (by kernel_rfl) (by kernel_rfl) (by kernel_rfl) (λ_ _ _ h=>h) (Or.inl ⟨by rfl,?_⟩) ?_
  rotate_left
  ·intro w0;first|(go_simp;done)|(go_simp;with_reducible rfl)
  go_simp
  refine wpAny_ready (rs:=[3]) (by kernel_rfl) (by simp) ?_;refine AllReady.cons rfl (λK c=>?_) AllReady.nil
  dsimp only[List.getElem_toArray,List.getElem_cons_succ,List.getElem_cons_zero]
  go_simp
  refine c _ _ ?_;clear c K
  all_goals
   refine wpAny_ready (rs:=[10]) (by kernel_rfl) (by simp) ?_;refine AllReady.cons rfl (λK c=>?_) AllReady.nil
   dsimp only[List.getElem_toArray,List.getElem_cons_succ,List.getElem_cons_zero]
   rw[if_pos (by rfl)];refine qan 105 #[.pointer (some ⟨b,0,none⟩),.int .i64 u,.agg #[.int .i64 v,.string z,.bool false]] (by go_simp) L ?_;rintro e w2 ⟨W',er,N,rfl,F⟩;have O:=qcp er w2 (d.out.gl2 M F);have H:Hid (∀e r,Below w2.heap.size w2 r->qkf er (qaj 18) e->qa3 18 W [x,y,z] w cb mb G e r):=λe r t R=>⟨W',er,qaj 18,by unfold qj4;rw[if_pos rfl,if_pos (show [x,y,z].length=3 from rfl),show qb5 2 (List.take 2 [x,y,z])=some [u,v]from E.out];exact N,R,qmn.after (d.out.ck.op d.out.g M F) t⟩;clear N F c1 c2 L;refine .inl ⟨_,rfl,?_⟩
   go_simp
   refine c _ _ ?_;clear c K;refine wpAny_ready (rs:=[11]) (by kernel_rfl) (by simp) ?_;refine AllReady.cons rfl (λK c=>?_) AllReady.nil
   dsimp only[List.getElem_toArray,List.getElem_cons_succ,List.getElem_cons_zero]
   rw[if_pos (by rfl)];refine qan 66 #[qbq er] (by go_simp) O ?_;rintro e r ⟨t,(⟨B,rfl⟩|⟨B,rfl⟩)⟩
   rotate_left
   ·exact .inr ⟨_,rfl,rfl,H.out _ _ t (.inr ⟨B,rfl⟩)⟩
   have S:=H.out _ _ t (.inl ⟨B,rfl⟩);clear B H O;refine .inl ⟨_,rfl,?_⟩
   go_simp
   refine c _ _ ?_;clear c K;refine wpAny_done (by kernel_rfl) ?_ _
   go_wp2
   go_ret;exact S
 ·have d:Hid (qdm w cb mb b Gw G W j a cap l/\l.length≠3):=⟨h,o⟩
  have U:¬(l.length:Int)=3:=by omega
  clear h o;go_enter Tryz.func64,Tryz.ntmps64
  go_wp2
  exact⟨rfl,qxu d.out.1 (by rw[if_neg d.out.2]) (Below.refl _ _)⟩
end
end
section
open Go.RowKit
theorem jbm {s:ByteArray} {v:Int} (h:qh9 s=some v):wfI v:=by
 unfold qh9 at h;split at h
 ·rename_i x c;split at h
  ·injection h with h;subst h;have:=Lib.parseIntB_bounds c;simp at this;exact⟨by omega,by omega⟩
  ·cases h
 ·cases h
variable {r:List Int}
theorem qxn:∀{l:List ByteArray},qfo l=some r->∀v∈r,wfI v
 |[],r,h=>by simp[qfo]at h;subst h;simp
 |x::l,r,h=>by
  simp only[qfo]at h;cases hx:qh9 x with
  |none=>rw[hx]at h;cases h
  |some v=>
   rw[hx]at h;simp only at h;cases hl:qfo l with
   |none=>rw[hl]at h;cases h
   |some q=>
    rw[hl]at h;injection h with h;subst h;intro y c;rcases List.mem_cons.1 c with e|e
    ·rw[e];exact jbm hx
    ·exact qxn hl y e
theorem q7h {m:Nat} {l:List ByteArray} (h:qb5 m l=some r):∀v∈r,wfI v:=by
 unfold qb5 at h;split at h
 ·exact qxn h
 ·cases h
theorem qo9 {key a0 a1 a2 a3:Int} {l:List Hd} (h:∀x∈l,qd2 x.v=true):(qdu key a0 a1 a2 a3 l).1.data.size<=12:=by
 unfold qdu;split
 ·cases hl:qde key a0 a1 a2 a3 l with
  |none=>exact Nat.zero_le _
  |some v=>
   obtain⟨x,c,rfl,_⟩:=quw hl;have:=h x c;simp only[qd2,Bool.and_eq_true,decide_eq_true_eq]at this;unfold qog;simp only;split
   ·exact Nat.zero_le _
   ·show x.v.data.size<=12;have:=this.1.2;omega
 ·exact Nat.zero_le _
theorem qlb {S:qaf} {s:qbn} {key:Int} (hs:qm8 s) (c:qcx S):(qb2 S s key).1.size<=12:=by
 unfold qb2;split
 ·exact Nat.zero_le _
 ·split
  ·rename_i x d;split
   ·exact Nat.zero_le _
   ·exact hs.ws x (q6h d).2
  ·show (qfe S key s.s0 s.s1 s.s2 s.s3).1.data.size<=12;unfold qfe;split
   ·exact qo9 c.ok
   ·exact Nat.zero_le _
def jee (W:WoS) (k key:Int) (w:World) (e:Ending) (w':World):Prop:=
 ∃d er told,qd3 13 W [k,key] ⟨#[]⟩ W er told/\(er=0->told=[105,115,32]++d.data.toList)/\d.size<=12/\e=.returned (.tuple #[.string d,qbq er])/\Below w.heap.size w w'
theorem jae {b:Nat} {G:Nat->Prop} {W:WoS} (k key:Int) (p:wfI key) (w:World) (h:PW w b G W) (o:DkI W):Calls Tryz.prog 113 #[.pointer (some ⟨b,0,none⟩),.int .i64 k,.int .i64 key] w (jee W k key w):=by
 obtain⟨j,g⟩:=o.pl;by_cases d:qbt k W.c
 ·obtain⟨i,rfl,hi,e⟩:=qca d;exact(jb1 key (jds p) w h g.wf hi).mono λ_ _ ⟨m,n⟩=>⟨_,_,_,⟨rfl,by rw[if_pos d];exact⟨rfl,rfl⟩⟩,λ_=>rfl,qlb (o.ses i hi) (g.wf.inv _ (g.wf.at_ i hi)),m,n⟩
 ·exact(qz8 k key w h d).mono λ_ _ ⟨m,n⟩=>⟨⟨#[]⟩,2,[],⟨rfl,by rw[if_neg d];exact⟨rfl,rfl⟩⟩,λe=>(by cases e),Nat.zero_le _,m,n⟩
section
variable {cb mb b j cap:Nat} {Gw G:Nat->Prop} {W:WoS} {a:Option Addr} {l:List ByteArray}
theorem qdm.told {w:World} {i:Nat} {ns:List Int} {er:Int} {told:List UInt8} {w':World} {e:Ending} (h:qdm w cb mb b Gw G W j a cap l) (hi:i≠18) (c:qb5 (qxc i) l=some ns) (d:qd3 i W ns ⟨#[]⟩ W er told) (hb:Below w.heap.size w w') (f:qkf er told e):qa3 i W l w cb mb G e w':=
 ⟨W,er,told,by unfold qj4;rw[if_neg hi,c];exact d.data hi,f,h.ck.same h.g hb⟩
theorem jbl (w:World) (h:qdm w cb mb b Gw G W j a cap l):Calls Tryz.prog 59 #[.pointer (some ⟨cb,0,none⟩),.slice a l.length cap] w (qa3 13 W l w cb mb G):=by
 have g:Hid _:=h;have n:=λw' hb=>qle h.sm w' (h.gl.later (w':=w') hb) (h.st.later hb);replace n:=n w.drew (Below.refl _ w).drew;have c0:=h.ck.cell0;clear h;go_enter Tryz.func59,Tryz.ntmps59
 go_wp2
 refine wp_region_any (by kernel_rfl) ?_;change wpAny _ _ _ _ _ _ _ (World.drew _);refine wpAny_take (i:=0) (v:=?_) rfl (by kernel_rfl) (by kernel_rfl) (by kernel_rfl) (λ_ _ _ h=>h) (Or.inl ⟨by rfl,?_⟩) ?_
 rotate_left
 ·intro w0;first|(go_simp;done)|(go_simp;with_reducible rfl)
 go_simp
 refine wpAny_take (i:=1) (v:=?_) rfl (by kernel_rfl) (by kernel_rfl) (by kernel_rfl) (λ_ _ _ h=>h) (Or.inl ⟨by rfl,?_⟩) ?_
 rotate_left
 ·intro w0;first|(go_simp;done)|(go_simp;with_reducible rfl)
 go_simp
 refine wpAny_take (i:=2) (v:=?_) rfl (by kernel_rfl) (by kernel_rfl) (by kernel_rfl) (λ_ _ _ h=>h) (Or.inl ⟨by rfl,?_⟩) ?_
 rotate_left
 ·intro w0;first|(go_simp;done)|(go_simp;with_reducible rfl)
 go_simp
 refine wpAny_take (i:=4) (v:=?_) rfl (by kernel_rfl) (by kernel_rfl) (by kernel_rfl) (λ_ _ _ h=>h) (Or.inl ⟨by rfl,?_⟩) ?_
 rotate_left
 ·intro w0;first|(go_simp;done)|(go_simp;with_reducible rfl)
 go_simp
 refine wpAny_ready (rs:=[3,5]) (by kernel_rfl) (by simp) ?_;refine AllReady.cons rfl (λK c=>?_) (AllReady.cons rfl (λK c=>?_) AllReady.nil)
 dsimp only[List.getElem_toArray,List.getElem_cons_succ,List.getElem_cons_zero]
 go_simp
 refine c _ _ ?_;clear c K;refine wpAny_ready (rs:=[5]) (by kernel_rfl) (by simp) ?_;refine AllReady.cons rfl (λK c=>?_) AllReady.nil
 dsimp only[List.getElem_toArray,List.getElem_cons_succ,List.getElem_cons_zero]
 rw[if_pos (by rfl)];refine qan 97 #[.slice a l.length cap] (by go_simp) n ?_;rintro e x ⟨o,(⟨u,v,k,rfl⟩|⟨k,rfl⟩)⟩
 rotate_left
 ·exact .inr ⟨_,rfl,rfl,g.out.no (by decide) k.out (qab (Below.refl _ w).drew o)⟩
 dsimp only[List.getElem_toArray,List.getElem_cons_succ,List.getElem_cons_zero]
 rw[if_pos (by rfl)];refine qan 97 #[.slice a l.length cap] (by go_simp) n ?_;rintro e x ⟨o,(⟨u,v,k,rfl⟩|⟨k,rfl⟩)⟩
 rotate_left
 ·exact .inr ⟨_,rfl,rfl,g.out.no (by decide) k.out (qab (Below.refl _ w).drew o)⟩
 all_goals
  have s:=qab (Below.refl _ w).drew o;have c1:=(g.out.ck.later s).cell0;have y:=jae u v (q7h k.out v (by simp)) x (g.out.ck.later s).pw g.out.di;refine .inl ⟨_,rfl,?_⟩
  go_simp
  refine c _ _ ?_;clear c K;refine wpAny_take (i:=6) (v:=?_) rfl (by kernel_rfl) (by kernel_rfl) (by kernel_rfl) (λ_ _ _ h=>h) (Or.inl ⟨by rfl,?_⟩) ?_
  rotate_left
  ·intro w0;first|(go_simp;done)|(go_simp;with_reducible rfl)
  go_simp
  refine wpAny_take (i:=7) (v:=?_) rfl (by kernel_rfl) (by kernel_rfl) (by kernel_rfl) (λ_ _ _ h=>h) (Or.inl ⟨by rfl,?_⟩) ?_
  rotate_left
  ·intro w0;first|(go_simp;done)|(go_simp;with_reducible rfl)
  go_simp
 rotate_left
 refine wpAny_ready (rs:=[3]) (by kernel_rfl) (by simp) ?_;refine AllReady.cons rfl (λK c=>?_) AllReady.nil
 dsimp only[List.getElem_toArray,List.getElem_cons_succ,List.getElem_cons_zero]
 go_simp
 refine c _ _ ?_;clear c K
 all_goals
  refine wpAny_ready (rs:=[8]) (by kernel_rfl) (by simp) ?_;refine AllReady.cons rfl (λK c=>?_) AllReady.nil
  dsimp only[List.getElem_toArray,List.getElem_cons_succ,List.getElem_cons_zero]
  rw[if_pos (by rfl)];refine qan 113 #[.pointer (some ⟨b,0,none⟩),.int .i64 u,.int .i64 v] (by go_simp) y ?_;rintro e w2 ⟨d,er,told,z,B,H,rfl,I⟩;have C:=qab s I;have D:=qcp er w2 (g.out.gl.later C);have t:Hid (∀e p,Below w2.heap.size w2 p->qkf er told e->qa3 13 W l w cb mb G e p):=λe p q J=>g.out.told (by decide) k.out z (qab C q) J;have E:Hid _:=B;have L:=λw=>qnh (P:=Tryz.prog) ⟨#[105,115,32]⟩ d (by show 3+d.size<=_;omega) w;clear z B H c1 c0 y;refine .inl ⟨_,rfl,?_⟩
  go_simp
  refine c _ _ ?_;clear c K;refine wpAny_take (i:=9) (v:=?_) rfl (by kernel_rfl) (by kernel_rfl) (by kernel_rfl) (λ_ _ _ h=>h) (Or.inl ⟨by rfl,?_⟩) ?_
  rotate_left
  ·intro w0;first|(go_simp;done)|(go_simp;with_reducible rfl)
  go_simp
  refine wpAny_take (i:=10) (v:=?_) rfl (by kernel_rfl) (by kernel_rfl) (by kernel_rfl) (λ_ _ _ h=>h) (Or.inl ⟨by rfl,?_⟩) ?_
  rotate_left
  ·intro w0;first|(go_simp;done)|(go_simp;with_reducible rfl)
  go_simp
  refine wpAny_take (i:=11) (v:=?_) rfl (by kernel_rfl) (by kernel_rfl) (by kernel_rfl) (λ_ _ _ h=>h) (Or.inl ⟨by rfl,?_⟩) ?_
  rotate_left
  ·intro w0;first|(go_simp;done)|(go_simp;with_reducible rfl)
  go_simp
  refine wpAny_take (i:=12) (v:=?_) rfl (by kernel_rfl) (by kernel_rfl) (by kernel_rfl) (λ_ _ _ h=>h) (Or.inl ⟨by rfl,?_⟩) ?_
  rotate_left
  ·intro w0;first|(go_simp;done)|(go_simp;with_reducible rfl)
  go_simp
  refine wpAny_take (i:=13) (v:=?_) rfl (by kernel_rfl) (by kernel_rfl) (by kernel_rfl) (λ_ _ _ h=>h) (Or.inl ⟨by rfl,?_⟩) ?_
  rotate_left
  ·intro w0;first|(go_simp;done)|(go_simp;with_reducible rfl)
  go_simp
  refine wpAny_done (by kernel_rfl) ?_ _
  go_wp2_with fail
  refine D.mono ?_;rintro e p ⟨q,(⟨m,rfl⟩|⟨m,rfl⟩)⟩
  rotate_left
  ·exact⟨rfl,t.out _ _ q (.inr ⟨m,rfl⟩)⟩
  have F:=t.out _ _ q (.inl ⟨m,rfl⟩);rw[E.out m,<-qbo]at F;clear m t D E
  go_wp2
  go_ret;exact F
end
end
section
open Go.RowKit
section
variable {cb mb b j cap:Nat} {Gw G:Nat->Prop} {W:WoS} {a:Option Addr} {l:List ByteArray}
theorem qf2 {w:World} {T:TypeId} (l:List Int):∀(q:Nat) x,l[q]?=some x->(w.alloc (.cells (qin l).toArray T)).cell? ⟨w.heap.size,0+q,none⟩=some (.int .i64 x):=λq x c=>by
 rw[Nat.zero_add];exact(qag.new (w:=w) (T:=T) (qin l) rfl).cell q _ (by unfold qin;rw[List.getElem?_map,c];rfl)
theorem jca (w:World) (h:qdm w cb mb b Gw G W j a cap l):Calls Tryz.prog 57 #[.pointer (some ⟨cb,0,none⟩),.slice a l.length cap] w (qa3 11 W l w cb mb G):=by
 have d:Hid _:=h;have s:=qr5 h.sm w h.gl h.st;clear h;go_enter Tryz.func57,Tryz.ntmps57
 go_wp2_with fail
 refine s.mono ?_;rintro e c ⟨i,(⟨n,rfl⟩|⟨n,rfl⟩)⟩
 ·have c1:=(d.out.ck.later i).cell0;have p:=(d.out.ck.later i).pw.later (Below.refl _ c).drew;have z:=jbg c.drew p;have B:=jcf c.drew p;have q:Below w.heap.size w ((c.alloc (.cells #[.int .i64 W.net.length,.int .i64 W.lost] 3)).drew):=(boxed i _).drew
  have u:=qdz (b:=c.heap.size) (o:=0) (cap:=2) (l:=[(W.net.length:Int),W.lost]) (by simp) (by simp) (λx v=>by
   simp at v;rcases v with rfl|rfl
   ·have:=d.out.wi.wf.net;exact⟨by omega,by omega⟩
   ·exact d.out.di.lost) ((c.alloc (.cells #[.int .i64 W.net.length,.int .i64 W.lost] 3)).drew) (d.out.gl.later q) (by simp) (qf2 (w:=c) (T:=3) [(W.net.length:Int),W.lost])
  have C:Hid (∀k,Below ((c.alloc (.cells #[.int .i64 W.net.length,.int .i64 W.lost] 3)).drew).heap.size ((c.alloc (.cells #[.int .i64 W.net.length,.int .i64 W.lost] 3)).drew) k->qa3 11 W l w cb mb G (.returned (.string (bya (qbc [(W.net.length:Int),W.lost])))) k):=λk r=>d.out.told (by decide) n.out ⟨rfl,rfl,rfl⟩ (qab q r) (.inl ⟨rfl,rfl⟩)
  dsimp only[List.length_cons,List.length_nil,Nat.reduceAdd]at u
  clear q p s
  go_wp2
  go_region_with (first|(y 110;refine z.mono ?_;rintro e w2 ⟨rfl,rfl⟩)|(y 111;refine B.mono ?_;rintro e w2 ⟨rfl,rfl⟩)|(y 102;refine u.mono ?_;rintro e k ⟨rfl,r⟩))
  all_goals
   go_wp2
   go_ret;exact C.out _ r
 ·exact⟨rfl,d.out.no (by decide) n.out i⟩
end
end
section
open Go.RowKit
structure jdq (W:WoS) (k at_ p0 p1 p2 p3 s0 s1 s2 s3:Int) (op:Bool) (er:Int):Prop where
 cmd:qd3 4 W [k] ⟨#[]⟩ W er (if er=0 then qbc [at_]++[44,32]++qbc [p0,p1,p2,p3]++if op=true then [44,32]++qbc [s0,s1,s2,s3]else []else [])
 wf:∀x∈[at_,p0,p1,p2,p3,s0,s1,s2,s3],wfI x
theorem qbm {x:Int} (h:qd5 x):wfI x:=⟨by have:=h.1;omega,by have:=h.2;omega⟩
theorem qu1 {b:Nat} {G:Nat->Prop} {W:WoS} (k:Int) (m:DkI W):∃at_ p0 p1 p2 p3 s0 s1 s2 s3 n er,jdq W k at_ p0 p1 p2 p3 s0 s1 s2 s3 n er/\∀w,PW w b G W->Calls Tryz.prog 101 #[.pointer (some ⟨b,0,none⟩),.int .i64 k] w λe w'=>e=.returned (.tuple #[.int .i64 at_,.agg #[.int .i64 p0,.int .i64 p1,.int .i64 p2,.int .i64 p3],.agg #[.int .i64 s0,.int .i64 s1,.int .i64 s2,.int .i64 s3],.bool n,qbq er])/\Below w.heap.size w w':=by
 obtain⟨j,o⟩:=m.pl;by_cases g:qbt k W.c
 ·obtain⟨i,rfl,hi,e⟩:=qca g;have hs:=m.ses i hi;have p:=o.wf.at_ i hi;have q:=o.wf.n4;refine⟨_,_,_,_,_,_,_,_,_,_,0,⟨⟨rfl,by rw[if_pos g];exact⟨rfl,rfl⟩⟩,λx d=>?_⟩,λw h=>q2h w h hi⟩;simp only[List.mem_cons,List.not_mem_nil,or_false]at d;rcases d with rfl|rfl|rfl|rfl|rfl|rfl|rfl|rfl|rfl
  ·exact⟨by omega,by omega⟩
  ·exact qbm hs.p0
  ·exact qbm hs.p1
  ·exact qbm hs.p2
  ·exact qbm hs.p3
  ·exact qbm hs.s0
  ·exact qbm hs.s1
  ·exact qbm hs.s2
  ·exact qbm hs.s3
 ·refine⟨0,0,0,0,0,0,0,0,0,false,2,⟨⟨rfl,by rw[if_neg g];exact⟨rfl,rfl⟩⟩,λx d=>?_⟩,λw h=>qtj k w h g⟩;simp at d;subst d;exact⟨by decide,by decide⟩
section
variable {cb mb b j cap:Nat} {Gw G:Nat->Prop} {W:WoS} {a:Option Addr} {l:List ByteArray}
theorem q4q (w:World) (h:qdm w cb mb b Gw G W j a cap l) (c:qb5 1 l=none):Calls Tryz.prog 50 #[.pointer (some ⟨cb,0,none⟩),.slice a l.length cap] w (qa3 4 W l w cb mb G):=by
 have g:Hid _:=h
 have i:Hid (∀w',Below w.heap.size w w'->Calls Tryz.prog 95 #[.slice a l.length cap] w' λe w2=>e=qf0 3/\Below w'.heap.size w' w2):=λw' hb=>(qfx h.sm w' (h.gl.later hb) (h.st.later hb)).mono λe w2 ⟨k,m⟩=>by
  rcases m with ⟨v,n,_⟩|⟨_,p⟩
  ·rw[n.out]at c;cases c
  ·exact⟨p,k⟩
 have c0:=h.ck.cell0;have q:Hid _:=c;have s:∀o,(w.alloc o).cell? ⟨cb,0,none⟩=some (.pointer (some ⟨b,0,none⟩)):=λo=>cell_later (boxed (Below.refl _ w) o) c0;have t:∀o d,((w.alloc o).alloc d).cell? ⟨cb,0,none⟩=some (.pointer (some ⟨b,0,none⟩)):=λo d=>cell_later (boxed (boxed (Below.refl _ w) o) d) c0;clear h c;go_enter Tryz.func50,Tryz.ntmps50
 go_wp2
 go_region_dies
 all_goals
  refine(i.out _ (by repeat (first|(with_reducible exact Below.refl _ _)|(with_reducible refine boxed ?_ _)|(with_reducible refine Below.drew ?_)))).mono ?_;rintro e wa ⟨rfl,r⟩;exact⟨rfl,g.out.no (by decide) q.out (qab (by repeat (first|(with_reducible exact Below.refl _ _)|(with_reducible refine boxed ?_ _)|(with_reducible refine Below.drew ?_))) r)⟩
end
end
section
open Go.RowKit
theorem qcc (l:List UInt8):(bya l).size=l.length:=by simp[ByteArray.size]
theorem qpd {w:World} {b:Nat} {a0 a1 a2 a3:Int} (h:qa9 w b a0 a1 a2 a3):∀(q:Nat) x,[a0,a1,a2,a3][q]?=some x->w.cell? ⟨b,0+q,none⟩=some (.int .i64 x)
 |0,x,hx=>by simp at hx;subst hx;exact h.c0
 |1,x,hx=>by simp at hx;subst hx;exact h.c1
 |2,x,hx=>by simp at hx;subst hx;exact h.c2
 |3,x,hx=>by simp at hx;subst hx;exact h.c3
 |q+4,x,hx=>by simp at hx
end
def jer (x y:List UInt8):Bool:=decide (x<=y)
theorem qwx:qi0.Pairwise (λx y=>jer x y=true):=by decide
theorem qxm {d:List (List UInt8)} (h:d.Perm qi0):d.mergeSort (λx y=>decide (x<=y))=qi0:=by
 have g:∀a b c:List UInt8,decide (a<=b)=true->decide (b<=c)=true->decide (a<=c)=true:=λa b c e f=>decide_eq_true (List.le_trans (of_decide_eq_true e) (of_decide_eq_true f))
 have i:∀a b:List UInt8,(decide (a<=b)||decide (b<=a))=true:=λa b=>by
  rcases List.le_total a b with q|q<;>simp[q]
 have j:=List.pairwise_mergeSort g i d;have k:=(List.mergeSort_perm d (λx y=>decide (x<=y))).trans h;exact k.eq_of_pairwise (λa b _ _ e f=>List.le_antisymm (of_decide_eq_true e) (of_decide_eq_true f)) j qwx
open Go.RowKit Go.Maps
theorem q2m (x:List UInt8):x∈qi0↔∃i,i<19/\x=qaj i:=by
 constructor
 ·intro h;obtain⟨i,hi,e⟩:=List.mem_iff_getElem.1 h;exact⟨i,hi,by unfold qaj;rw[List.getD_eq_getElem?_getD,List.getElem?_eq_getElem hi];exact e.symm⟩
 ·rintro ⟨i,hi,rfl⟩;unfold qaj;rw[List.getD_eq_getElem?_getD,List.getElem?_eq_getElem (show i<qi0.length from hi)];exact List.getElem_mem _
theorem qwo {w:World} {mb cb:Nat} {D:DataW Value} (h:w.ownsMap Tryz.prog 9 qe3 mb 19 D) (d:qrf D cb 19) {a:List (List UInt8)} (hs:a.Perm (Go.strKeys D)):a.mergeSort (λx y=>decide (x<=y))=qi0:=by
 have b:Go.Collected D (λ_=>false) qi0:=⟨by decide,λx=>by
  rw[q2m]
  constructor
  ·rintro ⟨i,hi,rfl⟩;exact⟨(d.has i hi).1,rfl⟩
  ·rintro ⟨q,_⟩;rcases f.em (∃i,i<19/\x=qaj i)with e|e
   ·exact e
   ·have:=(d.no x (λi hi c=>e ⟨i,hi,c⟩)).1;rw[q]at this
    cases this⟩
 exact qxm (hs.trans (b.perm h qku Tryz.underlying9 (λ_=>rfl)).symm)
end Go.Proofs.YtoanjdndmlffdaaGreatDoor
