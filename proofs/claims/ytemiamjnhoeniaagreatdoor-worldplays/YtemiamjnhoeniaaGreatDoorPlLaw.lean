import Derived.Test.YtemiamjnhoeniaaGreatDoorSiteM
set_option maxHeartbeats 64000000
set_option maxRecDepth 1000000
namespace Go.Proofs.YtemiamjnhoeniaaGreatDoor
open Go.Value Go.IntKind Go.RowKit
theorem qn2.lens {b w:World} {bp a i:Nat} {W:WoS} (h:qn2 b bp a i W w):∃a0 e a2 f g j,w.cell? ⟨a,0,none⟩=some (.slice a0 W.n e)/\w.cell? ⟨a,2,none⟩=some (.slice a2 W.c f)/\w.cell? ⟨a,4,none⟩=some (.slice g W.net.length j)/\w.cell? ⟨a,5,none⟩=some (int i64 W.lost)/\a<w.heap.size:=by
 obtain⟨_,_,_,r,_⟩:=h.d;exact r.lens
theorem qwa (K L:Int) (a:Option Addr) (cap:Nat) (l:List q1k) (w:World) (hD:qlv w a cap l) (hg:G0 w):
 Calls Tryz.prog 3 #[int i64 K,int i64 L,.slice a l.length cap] w λe w'=>e=.returned (.bool true)/\Below w.heap.size w w':=by
 have hne:=Later.one;have H:Hid _:=hg;clear hg;by_cases h120:120<(l.length:Int)
 ·go_enter Tryz.func3,Tryz.ntmps3
  go_wp2_with fail
  go_ret;exact⟨rfl,Below.refl _ _⟩
 ·by_cases hr:(1<=K/\K<=4)/\(0<=L/\L<=6)
  ·obtain⟨n,rfl⟩:∃n:Nat,K=n:=⟨K.toNat,by omega⟩;obtain⟨c,rfl⟩:∃c:Nat,L=c:=⟨L.toNat,by omega⟩;have M:=q5b (n:=n) (c:=c) (by omega) (by omega) (by omega) w;have I:Hid (1<=n/\n<=4/\c<=6):=⟨by omega,by omega,by omega⟩;clear hr;go_enter Tryz.func3,Tryz.ntmps3
   go_wp2_with fail
   refine M.mono ?_;rintro e w1 ⟨rfl,Gp,p1,hGp,J⟩;have N:=q5a (n:=n) (c:=c) I.out.1 I.out.2.1 I.out.2.2 w1;clear M
   go_wp2_with fail
   refine N.mono ?_;rintro e w2 ⟨rfl,Gr,r2,hGr,D⟩;obtain⟨bp,hbp⟩:∃bp,w.heap.size=bp:=⟨_,rfl⟩;obtain⟨j,hbr⟩:∃j,w1.heap.size+1+1=j:=⟨_,rfl⟩
   have N0:Hid (qn2 w bp j 0 (ql4 n c) w2):=by
        have s1:=J.size;refine⟨⟨Gp,Gr,by rw[<-hbp];exact p1.later D,by rw[<-hbr];exact r2,λk e1 e2=>?_,λk e=>⟨?_,λe1=>?_,λe2=>?_⟩⟩,qac J D,PlI.new I.out.1 I.out.2.1 I.out.2.2⟩
        ·have:=p1.lt k e1;have:=hGr k e2;omega
        ·have:=D.size;have e:k<w.heap.size:=e;omega
        ·have:=hGp k e1;have e:k<w.heap.size:=e;omega
        ·have:=hGr k e2;have e:k<w.heap.size:=e;omega
   rw[hbp,hbr];clear hbp hbr p1 hGp J r2 hGr D N
   go_wp2_with fail
   go_loopw [11] (λiv wr=>∃(i:Nat) (z:Int) (W:WoS),i<=l.length/\z=i/\iv=int i64 z/\Hid (qn2 w bp j i W wr)) (λiv _=>l.length-(intOf iv).toNat)
   case atStart=>exact⟨0,0,_,by omega,rfl,rfl,N0.out⟩
   case round=>
        clear N0;obtain⟨i,z,W,hi,hz,rfl,E⟩:=hrel;have y:Hid _:=hz;by_cases hlt:i<l.length
        ·have g1:z<(l.length:Int):=by omega
         have g2:z.toNat=i:=by omega
         have g3:0<=z:=by omega
         clear hz;obtain⟨ab,ao,what,q,m,xk,xd,xg,rfl,_,hwf,x0,x1,x2,x3,x4,x5⟩:=(hD.later E.out.b).at hlt;have bx:=boxed (Below.refl _ wr) (.cells #[int i64 what,int i64 q,int i64 m,int i64 xk,.string xd,.bool xg] 36);have RX:=qag.new (w:=wr) (T:=36) (n:=wr.heap.size) [int i64 what,int i64 q,int i64 m,int i64 xk,.string xd,.bool xg] rfl;obtain⟨y0,y1,y2,y3,y4,y5⟩:=RX.c6;have B:Hid _:=E.out.later bx;by_cases h100:100<(xd.size:Int)
         ·clear RX
          go_wp2_with fail
          go_roundw
          case rel=>exact⟨i+1,z+1,W,by omega,by have:=y.out;omega,by go_num,B.out.mono (Nat.le_succ i)⟩
          case measure=>simp[intOf];have:=y.out;omega
         ·have HWF:Hid ((Lit.int .i64 m).wf=true/\i<=120):=⟨hwf,by omega⟩;have HRX:Hid _:=RX;have hz0:0<w.heap.size:=World.block_lt_of_cell? _ _ H.out
          have AD:Hid (∀T,T=what->(0<=T/\T<=5->Calls Tryz.prog 10 #[.pointer (some ⟨bp,0,none⟩),.pointer (some ⟨j,0,none⟩),.agg #[int i64 T,int i64 q,int i64 m,int i64 xk,.string xd,.bool xg]] (wr.alloc (.cells #[int i64 what,int i64 q,int i64 m,int i64 xk,.string xd,.bool xg] 36)) λe w'=>e=.returned (.bool true)/\∃F,Hid (qn2 w bp j (i+1) F w'/\qag w' wr.heap.size [int i64 what,int i64 q,int i64 m,int i64 xk,.string xd,.bool xg]))/\(5<T->Calls Tryz.prog 11 #[.pointer (some ⟨bp,0,none⟩),.pointer (some ⟨j,0,none⟩),.agg #[int i64 T,int i64 q,int i64 m,int i64 xk,.string xd,.bool xg]] (wr.alloc (.cells #[int i64 what,int i64 q,int i64 m,int i64 xk,.string xd,.bool xg] 36)) λe w'=>e=.returned (.bool true)/\∃F,Hid (qn2 w bp j (i+1) F w'/\qag w' wr.heap.size [int i64 what,int i64 q,int i64 m,int i64 xk,.string xd,.bool xg]))):=λT _=>by
           have go:∀{e w'},qlx (wr.alloc (.cells #[int i64 what,int i64 q,int i64 m,int i64 xk,.string xd,.bool xg] 36)) bp j i (λk=>k<w.heap.size\/k=wr.heap.size) e w'->e=.returned (.bool true)/\∃F,Hid (qn2 w bp j (i+1) F w'/\qag w' wr.heap.size [int i64 what,int i64 q,int i64 m,int i64 xk,.string xd,.bool xg]):=λ{e w'} h=>by
             obtain⟨he,F,hh⟩:=h;exact⟨he,F,⟨hh.out.2.1.less (λ_ e=>.inl e),B.out.b.trans (hh.out.2.2.below (λk hk=>.inl hk)),hh.out.1⟩,HRX.out.keeps hh.out.2.2 (.inr rfl)⟩
           exact⟨λhT=>(q0m T q m xk xd xg hT HWF.out.1 _ (E.out.d.boxed _) B.out.i HWF.out.2 (.inl hz0) (cell_later B.out.b H.out)).mono λe w' h=>go h,λhT=>(q0p T q m xk xd xg hT _ (E.out.d.boxed _) B.out.i (.inl hz0) (cell_later B.out.b H.out)).mono λe w' h=>go h⟩
          have hwh:what<0\/(0<=what/\what<=5)\/5<what:=by omega
          have NC:Hid _:=B.out.mono (Nat.le_succ i);clear RX hwf B hz0;rcases hwh with hw0|⟨hw1,hw2⟩|hw3
          ·have v1:¬0<=what:=by omega
           have v2:¬5<what:=by omega
           obtain⟨g,o⟩:∃g,Hid (qn2 w bp j (i+1) g (wr.alloc (.cells #[int i64 what,int i64 q,int i64 m,int i64 xk,.string xd,.bool xg] 36))):=⟨W,NC⟩
           go_wp2_with fail
           obtain⟨a0,O,a2,P,Q,R,c0,c2,s,u,hbl⟩:=o.out.lens;have S:=Later.cell s;have U:=Later.cell u
           have t1:decide (¬((g.net.length:Int)=(g.net.length:Int)))=false:=by simp
           have t2:decide (¬(g.lost=g.lost))=false:=by simp
           clear c0 c2 s u;refine qaa (by kernel_rfl) (by kernel_rfl) ?_
           repeat (go_big_quiet_step (first|rfl|(go_at_call 12;with_reducible exact qab (qo6 (o.out.d.later (Later.below _))))|(go_at_call 13;with_reducible exact qab (qop (o.out.d.later (Later.below _))))))
           refine wpQuiet_nil ?_;rintro V ⟨⟨_,X⟩,rfl⟩;have C:Hid _:=o.out.later X;clear S U y0 y1 y2 y3 y4 y5 x0 x1 x2 x3 x4 x5
           go_wp2_with fail
           refine qka (qjf V C _ ?_);intro Y u13 u14 u15 u16 u17 u18 u19 u126 u127 u128 u129 u130 u131 u132 u133 u134 u135 u136 u137 u138 u139 u140 u141 u142 u143 u144 u145 u146 u147 u148 u149 u150 u151 u152 u153 u154 u155 u156 u157 u158 u159 u160 u161 u162 u163 u164 u165 u166 u167 u168 u169 u170 u171 u172 u173 u174 u175 u176 u177 u178 u179 u180 u181 u182 u183 u184 u185 u186 u187 u188 u189 u190 u191 u192 v Z
           go_wp2_with fail
           refine qka (qja v Z _ ?_);intro Y u20 u21 u22 u23 u24 u25 u26 u193 u194 u195 u196 u197 u198 u199 u200 u201 u202 u203 u204 u205 u206 u207 u208 u209 u210 u211 u212 u213 u214 u215 u216 u217 u218 u219 u220 u221 u222 u223 u224 u225 u226 u227 u228 u229 u230 u231 u232 u233 u234 u235 u236 u237 u238 u239 u240 u241 u242 u243 u244 u245 u246 u247 u248 u249 u250 u251 u252 u253 u254 w7 x
           go_wp2_with fail
           go_roundw
           case rel=>exact⟨i+1,z+1,g,by omega,by have:=y.out;omega,by go_num,x.out⟩
           case measure=>simp[intOf];have:=y.out;omega
          ·have v2:¬5<what:=by omega
           have CA:=(AD.out what rfl).1 ⟨hw1,hw2⟩
           go_wp2_with fail
           refine CA.mono ?_;rintro e w3 ⟨rfl,g,G⟩;have o:Hid _:=G.out.1;have s0:=G.out.2.cell 0 _ rfl;have sl:=G.out.2.lt;clear CA
           go_wp2_with fail
           obtain⟨a0,O,a2,P,Q,R,c0,c2,s,u,hbl⟩:=o.out.lens;have S:=Later.cell s;have U:=Later.cell u
           have t1:decide (¬((g.net.length:Int)=(g.net.length:Int)))=false:=by simp
           have t2:decide (¬(g.lost=g.lost))=false:=by simp
           clear c0 c2 s u;refine qaa (by kernel_rfl) (by kernel_rfl) ?_
           repeat (go_big_quiet_step (first|rfl|(go_at_call 12;with_reducible exact qab (qo6 (o.out.d.later (Later.below _))))|(go_at_call 13;with_reducible exact qab (qop (o.out.d.later (Later.below _))))))
           refine wpQuiet_nil ?_;rintro V ⟨⟨_,X⟩,rfl⟩;have C:Hid _:=o.out.later X;clear S U y0 y1 y2 y3 y4 y5 x0 x1 x2 x3 x4 x5
           go_wp2_with fail
           refine qka (qjf V C _ ?_);intro Y u13 u14 u15 u16 u17 u18 u19 u126 u127 u128 u129 u130 u131 u132 u133 u134 u135 u136 u137 u138 u139 u140 u141 u142 u143 u144 u145 u146 u147 u148 u149 u150 u151 u152 u153 u154 u155 u156 u157 u158 u159 u160 u161 u162 u163 u164 u165 u166 u167 u168 u169 u170 u171 u172 u173 u174 u175 u176 u177 u178 u179 u180 u181 u182 u183 u184 u185 u186 u187 u188 u189 u190 u191 u192 v Z
           go_wp2_with fail
           refine qka (qja v Z _ ?_);intro Y u20 u21 u22 u23 u24 u25 u26 u193 u194 u195 u196 u197 u198 u199 u200 u201 u202 u203 u204 u205 u206 u207 u208 u209 u210 u211 u212 u213 u214 u215 u216 u217 u218 u219 u220 u221 u222 u223 u224 u225 u226 u227 u228 u229 u230 u231 u232 u233 u234 u235 u236 u237 u238 u239 u240 u241 u242 u243 u244 u245 u246 u247 u248 u249 u250 u251 u252 u253 u254 w7 x
           go_wp2_with fail
           go_roundw
           case rel=>exact⟨i+1,z+1,g,by omega,by have:=y.out;omega,by go_num,x.out⟩
           case measure=>simp[intOf];have:=y.out;omega
          ·have v1:¬what<=5:=by omega
           have v3:0<=what:=by omega
           have CA:=(AD.out what rfl).2 hw3
           go_wp2_with fail
           refine CA.mono ?_;rintro e w3 ⟨rfl,g,G⟩;have o:Hid _:=G.out.1;have s0:=G.out.2.cell 0 _ rfl;have sl:=G.out.2.lt;clear CA
           go_wp2_with fail
           obtain⟨a0,O,a2,P,Q,R,c0,c2,s,u,hbl⟩:=o.out.lens;have S:=Later.cell s;have U:=Later.cell u
           have t1:decide (¬((g.net.length:Int)=(g.net.length:Int)))=false:=by simp
           have t2:decide (¬(g.lost=g.lost))=false:=by simp
           clear c0 c2 s u;refine qaa (by kernel_rfl) (by kernel_rfl) ?_
           repeat (go_big_quiet_step (first|rfl|(go_at_call 12;with_reducible exact qab (qo6 (o.out.d.later (Later.below _))))|(go_at_call 13;with_reducible exact qab (qop (o.out.d.later (Later.below _))))))
           refine wpQuiet_nil ?_;rintro V ⟨⟨_,X⟩,rfl⟩;have C:Hid _:=o.out.later X;clear S U y0 y1 y2 y3 y4 y5 x0 x1 x2 x3 x4 x5
           go_wp2_with fail
           refine qka (qjf V C _ ?_);intro Y u13 u14 u15 u16 u17 u18 u19 u126 u127 u128 u129 u130 u131 u132 u133 u134 u135 u136 u137 u138 u139 u140 u141 u142 u143 u144 u145 u146 u147 u148 u149 u150 u151 u152 u153 u154 u155 u156 u157 u158 u159 u160 u161 u162 u163 u164 u165 u166 u167 u168 u169 u170 u171 u172 u173 u174 u175 u176 u177 u178 u179 u180 u181 u182 u183 u184 u185 u186 u187 u188 u189 u190 u191 u192 v Z
           go_wp2_with fail
           refine qka (qja v Z _ ?_);intro Y u20 u21 u22 u23 u24 u25 u26 u193 u194 u195 u196 u197 u198 u199 u200 u201 u202 u203 u204 u205 u206 u207 u208 u209 u210 u211 u212 u213 u214 u215 u216 u217 u218 u219 u220 u221 u222 u223 u224 u225 u226 u227 u228 u229 u230 u231 u232 u233 u234 u235 u236 u237 u238 u239 u240 u241 u242 u243 u244 u245 u246 u247 u248 u249 u250 u251 u252 u253 u254 w7 x
           go_wp2_with fail
           go_roundw
           case rel=>exact⟨i+1,z+1,g,by omega,by have:=y.out;omega,by go_num,x.out⟩
           case measure=>simp[intOf];have:=y.out;omega
        ·have g1:¬z<(l.length:Int):=by omega
         have e:i=l.length:=by omega
         obtain⟨a0,O,a2,P,Q,R,c0,c2,s,u,hbl⟩:∃a0 O a2 P Q R,wr.cell? ⟨j,0,none⟩=some (.slice a0 W.n O)/\wr.cell? ⟨j,2,none⟩=some (.slice a2 W.c P)/\wr.cell? ⟨j,4,none⟩=some (.slice Q W.net.length R)/\wr.cell? ⟨j,5,none⟩=some (int i64 W.lost)/\j<wr.heap.size:=by
          obtain⟨_,_,_,r,_⟩:=E.out.d;exact r.lens
         have SN:Hid (Calls Tryz.prog 14 #[.pointer (some ⟨bp,0,none⟩),int i64 W.n] wr λe w'=>e=.returned (.tuple #[.agg #[int i64 0,int i64 0,int i64 0,int i64 0],int i64 0,.slice none 0 0,int i64 0,qa9 2])/\Below wr.heap.size wr w'):=by
          obtain⟨_,_,p,_⟩:=E.out.d;exact qvy (W.n:Int) wr p (by omega)
         clear hz
         go_wp2_with fail
         refine SN.out.mono ?_;rintro e w4 ⟨rfl,hb4⟩;have b5:=boxed (Below.refl _ w4) (.cells #[int i64 0,int i64 0,int i64 0,int i64 0] 47);have C:Hid _:=(E.out.later hb4).later b5
         have CN:Hid (Calls Tryz.prog 17 #[.pointer (some ⟨bp,0,none⟩),int i64 (-1)] (w4.alloc (.cells #[int i64 0,int i64 0,int i64 0,int i64 0] 47)) λe w'=>e=.returned (.tuple #[int i64 0,.agg #[int i64 0,int i64 0,int i64 0,int i64 0],.agg #[int i64 0,int i64 0,int i64 0,int i64 0],.bool false,qa9 2])/\Below (w4.alloc (.cells #[int i64 0,int i64 0,int i64 0,int i64 0] 47)).heap.size (w4.alloc (.cells #[int i64 0,int i64 0,int i64 0,int i64 0] 47)) w'):=by
          obtain⟨_,_,p,_⟩:=C.out.d;exact qqx (-1) _ p (by omega)
         clear SN c0 c2 s u
         go_wp2_with fail
         refine CN.out.mono ?_;rintro e v ⟨rfl,hb6⟩;have b7:Below v.heap.size v ((v.alloc (.cells #[int i64 0,int i64 0,int i64 0,int i64 0] 47)).alloc (.cells #[int i64 0,int i64 0,int i64 0,int i64 0] 47)):=boxed (boxed (Below.refl _ v) _) _;have x:Hid _:=(C.out.later hb6).later b7;have BB:=qa3 2 (cell_later x.out.b H.out);clear CN
         go_wp2_with fail
         refine BB.mono ?_;rintro e w8 ⟨rfl,hb8⟩;have BC:=qa3 2 (cell_later (qac x.out.b hb8) H.out)
         go_wp2_with fail
         refine BC.mono ?_;rintro e w9 ⟨rfl,hb9⟩
         go_wp2_with fail
         go_ret;exact⟨rfl,qac (qac x.out.b hb8) hb9⟩
  ·have M:=qyt hr w;go_enter Tryz.func3,Tryz.ntmps3
   go_wp2_with fail
   refine M.mono ?_;rintro e w1 ⟨rfl,J⟩;have N:=qyd hr w1;clear M
   go_wp2_with fail
   refine N.mono ?_;rintro e w2 ⟨rfl,D⟩;have BB:=qa3 2 (cell_later (qac J D) H.out);clear N
   go_wp2_with fail
   refine BB.mono ?_;rintro e w3 ⟨rfl,hb3⟩
   go_wp2_with fail
   go_ret;exact⟨rfl,qac (qac J D) hb3⟩
end Go.Proofs.YtemiamjnhoeniaaGreatDoor
