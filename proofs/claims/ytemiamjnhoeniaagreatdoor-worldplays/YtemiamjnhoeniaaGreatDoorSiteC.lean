import Derived.Test.YtemiamjnhoeniaaGreatDoorPGo
import Derived.Test.YtemiamjnhoeniaaGreatDoorQRead
set_option maxHeartbeats 16000000
set_option maxRecDepth 100000
namespace Go.Proofs.YtemiamjnhoeniaaGreatDoor
open Go.RowKit
section
open Tryz Go.Value Go.IntKind Go.Maps
def qa2 (S:qaf) (t:TxP):Int:=
 if okT t=false then 1 else if t.site=S.id then 1 else if t.seq<=qao t.site S.a0 S.a1 S.a2 S.a3 then 9 else if S.waits.any (λx=>qb5 x t)=true then 9 else if 200<=S.log.length then 12 else if 40<=S.waits.length/\qar S t=false then 12 else 0
def qbu (S:qaf) (t:TxP) (S':qaf):Prop:=(qa2 S t≠0/\S'=S)\/(qa2 S t=0/\Goes {S with waits:=S.waits++[t]} S')
variable {S:qaf} {t:TxP}
theorem qbu.det {A B:qaf} (h:qbu S t A) (k:qbu S t B):A=B:=by
 rcases h with ⟨a,rfl⟩|⟨a,d⟩
 ·rcases k with ⟨_,rfl⟩|⟨c,_⟩
  ·rfl
  ·exact absurd c a
 ·rcases k with ⟨c,_⟩|⟨_,e⟩
  ·exact absurd a c
  ·exact d.det e
theorem qew (h:qa2 S t=0):okT t=true/\t.site≠S.id/\¬t.seq<=qao t.site S.a0 S.a1 S.a2 S.a3/\(∀x∈S.waits,qb5 x t=false)/\S.log.length<200:=by
 unfold qa2 at h;split at h
 ·cases h
 ·rename_i a;split at h
  ·cases h
  ·rename_i c;split at h
   ·cases h
   ·rename_i d;split at h
    ·cases h
    ·rename_i e;split at h
     ·cases h
     ·rename_i g;refine⟨by simpa using a,c,d,λx f=>?_,by omega⟩;cases hi:qb5 x t with
      |false=>rfl
      |true=>exact absurd (List.any_eq_true.2 ⟨x,f,hi⟩) e
theorem qbu.inv {S':qaf} (h:qbu S t S') (a:qcr S):qcr S':=by
 rcases h with ⟨_,rfl⟩|⟨c,d⟩
 ·exact a
 ·obtain⟨p1,p2,_,e,_⟩:=qew c;exact d.inv (a.wait p1 p2 e)
structure TkB (tb b bm:Nat) (ts:List Value) (w:World):Prop where
 t:qag w tb ts
 m:w.cell? ⟨b,8,none⟩=some (.map (some bm))
variable {m:TxM}
theorem q0y {l:List TxM} {L:List TxP} {v:Bool} (c:l.map (·.t)=L) (d:qrc l t.site t.seq m v):L.any (λx=>qb5 x t)=v:=by
 cases v with
 |true=>
  obtain⟨a,f,g⟩:=d.yes rfl;rw[<-c];exact List.any_eq_true.2 ⟨m.t,List.mem_map.2 ⟨m,a,rfl⟩,qe6.2 ⟨f,g⟩⟩
 |false=>
  obtain⟨_,a⟩:=d.no rfl;rw[<-c,List.any_eq_false];intro x h;obtain⟨y,i,rfl⟩:=List.mem_map.1 h;exact λe=>a y i (qe6.1 e)
variable {b:Nat} {G:Nat->Prop}
theorem q28 {c g d:World} {lv:Value} {bm:Nat} {F:Nat->Prop} {log waits:List TxM} (l:qc9 c b lv bm F S log waits) (q:log.map (·.t)=S.log) (r:waits.map (·.t)=S.waits) (f:∀k,G k↔(qa4 b lv bm F k\/∃m∈log++waits,m.blk k))
 (n:Below c.heap.size c g) (s:qat g m.wa m.wc m.t.ws) (o:∀k,m.blk k->c.heap.size<=k) (u:qi8 d bm (waits++[m])) (gr:g.grownBy d (some bm)):
 ∃p,PS d b p {S with waits:=S.waits++[m.t]}/\(∀k,p k->G k\/c.heap.size<=k)/\qae G c d:=by
 have v:=l.later n
 have w:qc9 d b lv bm F {S with waits:=S.waits++[m.t]} log (waits++[m]):=(v.turn gr u (λx h=>by
  rcases List.mem_append.1 h with a|a
  ·exact .inl a
  ·rw[List.mem_singleton.1 a];refine .inr ⟨s,λk e y=>?_⟩;have:=o k e;have:=l.lt k y
   omega)).waits _
 refine⟨_,⟨lv,bm,F,log,waits++[m],w,q,by rw[List.map_append,r];rfl,λk=>Iff.rfl⟩,λk z=>?_,?_⟩
 ·rcases z with a|⟨x,h,a⟩
  ·exact .inl ((f k).2 (.inl a))
  ·rcases List.mem_append.1 h with i|i
   ·exact .inl ((f k).2 (.inr ⟨x,List.mem_append.2 (.inl i),a⟩))
   ·rcases List.mem_append.1 i with j|j
    ·exact .inl ((f k).2 (.inr ⟨x,List.mem_append.2 (.inr j),a⟩))
    ·rw[List.mem_singleton.1 j]at a;exact .inr (o k a)
 ·exact(qae.ofBelow n).trans (qae.grown gr (λk e=>(f k).2 (.inl (.inr (.inr (.inl (by injection e with e;exact e.symm)))))))
theorem qyz (m:TxM) (w:World) (h:PS w b G S) (hI:qcr S) (hn:S.waits.length<=990) (hW:qat w m.wa m.wc m.t.ws):
 Calls prog 118 #[.pointer (some ⟨b,0,none⟩),txV m] w λe w'=>e=.returned (qa9 (qa2 S m.t))/\∃S',qbu S m.t S'/\PPo w b G S' w':=by
 obtain⟨⟨site,seq,wall,count,d0,d1,d2,d3,ws⟩,a,cap⟩:=m;simp only at hW ⊢;have hb:=boxed (Below.refl _ w) (.cells #[int i64 site,int i64 seq,int i64 wall,int i64 count,int i64 d0,int i64 d1,int i64 d2,int i64 d3,.slice a ws.length cap] 80);have q:=qag.new (w:=w) (T:=80) [int i64 site,int i64 seq,int i64 wall,int i64 count,int i64 d0,int i64 d1,int i64 d2,int i64 d3,.slice a ws.length cap] rfl;change qag (w.alloc (.cells #[int i64 site,int i64 seq,int i64 wall,int i64 count,int i64 d0,int i64 d1,int i64 d2,int i64 d3,.slice a ws.length cap] 80)) w.heap.size [int i64 site,int i64 seq,int i64 wall,int i64 count,int i64 d0,int i64 d1,int i64 d2,int i64 d3,.slice a ws.length cap]at q;have hne:=Later.one;have P1:=h.later hb;have W1:=hW.later hb;have nG:¬G w.heap.size:=λe=>Nat.lt_irrefl _ (h.lt _ e)
 have X:∀c ev,qa2 S ⟨site,seq,wall,count,d0,d1,d2,d3,ws⟩=ev->ev≠0->Below w.heap.size w c->Hid ((.returned (qa9 ev):Ending)=.returned (qa9 (qa2 S ⟨site,seq,wall,count,d0,d1,d2,d3,ws⟩))/\∃S',qbu S ⟨site,seq,wall,count,d0,d1,d2,d3,ws⟩ S'/\PPo w b G S' c):=λc ev e1 e2 e3=>by
  show _/\_;rw[e1];exact⟨rfl,S,.inl ⟨by rw[e1];exact e2,rfl⟩,PPo.same h e3⟩
 have GO0:Hid (∀c G9 S',(∀k,G9 k->G k\/w.heap.size<=k)->qae G w c->∀w10,PPo c b G9 S' w10->PPo w b G S' w10):=λc G9 S' s B w10 o=>PPo.trans s B o;clear h hW;show Calls prog 118 #[.pointer (some ⟨b,0,none⟩),.agg #[int i64 site,int i64 seq,int i64 wall,int i64 count,int i64 d0,int i64 d1,int i64 d2,int i64 d3,.slice a ws.length cap]] w _;obtain⟨lv,bm,F,log,waits,PM,hl,hw,hG⟩:=id P1;have k0:=Later.cell (PM.box.cell 0 _ rfl);have Y:=Later.cell (q.cell 0 _ rfl);have Z:=Later.cell (q.cell 1 _ rfl);have t2:=Later.cell (q.cell 2 _ rfl);have t3:=Later.cell (q.cell 3 _ rfl);have t4:=Later.cell (q.cell 4 _ rfl);have t5:=Later.cell (q.cell 5 _ rfl);have t6:=Later.cell (q.cell 6 _ rfl);have t7:=Later.cell (q.cell 7 _ rfl);have t8:=Later.cell (q.cell 8 _ rfl);cases hok:okT ⟨site,seq,wall,count,d0,d1,d2,d3,ws⟩
 ·have HK:Hid (qc7 site seq wall count d0 d1 d2 d3 ws=false):=hok
  have E:qa2 S ⟨site,seq,wall,count,d0,d1,d2,d3,ws⟩=1:=by unfold qa2;rw[if_pos hok]
  have u:=λc z=>X c 1 E (by decide) z;clear E X hok PM hl hw hG P1 hI;go_enter func118,ntmps118
  go_wp2_with fail
  refine qaa (by kernel_rfl) (by kernel_rfl) ?_
  repeat (go_big_quiet_step (first|rfl|(go_at_call 148;with_reducible exact qab (qe2 (W1.later (Later.below _)) HK.out))))
  refine wpQuiet_nil ?_;rintro w2 ⟨⟨_,C⟩,rfl⟩
  go_wp2_with fail
  go_ret;exact(u _ (qac hb C)).out
 ·have HK:Hid (qc7 site seq wall count d0 d1 d2 d3 ws=true):=hok;obtain⟨⟨s0,s3⟩,⟨sq1,sq2⟩,sw⟩:=qdn hok;simp only at s0 s3 sq1 sq2 sw;have H:Hid (okT ⟨site,seq,wall,count,d0,d1,d2,d3,ws⟩=true):=hok;clear hok;by_cases L:site=S.id
  ·have E:qa2 S ⟨site,seq,wall,count,d0,d1,d2,d3,ws⟩=1:=by unfold qa2;rw[if_neg (by rw[H.out];decide),if_pos L]
   have u:=λc z=>X c 1 E (by decide) z
   have i1:(site==S.id)=true:=by simp[L]
   have i2:decide (site=S.id)=true:=by simp[L]
   clear E X PM hl hw hG P1 hI L;go_enter func118,ntmps118
   go_wp2_with fail
   refine qaa (by kernel_rfl) (by kernel_rfl) ?_
   repeat (go_big_quiet_step (first|rfl|(go_at_call 148;with_reducible exact qab (qe2 (W1.later (Later.below _)) HK.out))))
   refine wpQuiet_nil ?_;rintro w2 ⟨⟨_,C⟩,rfl⟩
   go_wp2_with fail
   go_ret;exact(u _ (qac hb C)).out
  ·have i1:(site==S.id)=false:=by simp[L]
   have i2:decide (site=S.id)=false:=by simp[L]
   have M:Hid (¬site=S.id):=L;have g:Hid (qc9 (w.alloc (.cells #[int i64 site,int i64 seq,int i64 wall,int i64 count,int i64 d0,int i64 d1,int i64 d2,int i64 d3,.slice a ws.length cap] 80)) b lv bm F S log waits/\log.map (·.t)=S.log/\waits.map (·.t)=S.waits/\∀k,G k↔(qa4 b lv bm F k\/∃m∈log++waits,m.blk k)):=⟨PM,hl,hw,hG⟩;have P:Hid (qcr S):=hI;have N:Hid (∀c ev,qa2 S ⟨site,seq,wall,count,d0,d1,d2,d3,ws⟩=ev->ev≠0->Below w.heap.size w c->Hid ((.returned (qa9 ev):Ending)=.returned (qa9 (qa2 S ⟨site,seq,wall,count,d0,d1,d2,d3,ws⟩))/\∃S',qbu S ⟨site,seq,wall,count,d0,d1,d2,d3,ws⟩ S'/\PPo w b G S' c)):=X;clear X PM hl hw hG P1 hI L;go_enter func118,ntmps118
   go_wp2_with fail
   refine qaa (by kernel_rfl) (by kernel_rfl) ?_
   repeat (go_big_quiet_step (first|rfl|(go_at_call 148;with_reducible exact qab (qe2 (W1.later (Later.below _)) HK.out))))
   refine wpQuiet_nil ?_;rintro w2 ⟨⟨_,C⟩,rfl⟩;clear Y Z t2 t3 t4 t5 t6 t7 t8 k0;have PM2:Hid (qc9 w2 b lv bm F S log waits):=g.out.1.later C;have RB2:=q.later C;have hbw:=qac hb C;have HBA2:Hid (Below (w.alloc (.cells #[int i64 site,int i64 seq,int i64 wall,int i64 count,int i64 d0,int i64 d1,int i64 d2,int i64 d3,.slice a ws.length cap] 80)).heap.size (w.alloc (.cells #[int i64 site,int i64 seq,int i64 wall,int i64 count,int i64 d0,int i64 d1,int i64 d2,int i64 d3,.slice a ws.length cap] 80)) w2):=C;have HNT:Hid (¬G w.heap.size):=nG;clear q hb C nG;have d8:=Later.cell (PM2.out.box.cell 8 _ rfl);have Y:=Later.cell (RB2.cell 0 _ rfl);have Z:=Later.cell (RB2.cell 1 _ rfl);have ks:=Later.cell (PM2.out.box.cell _ _ (qny s0 s3))
   have s4:site<4:=by omega
   obtain⟨D,hD⟩:∃D,qao site S.a0 S.a1 S.a2 S.a3=D:=⟨_,rfl⟩;have HD:Hid (qao site S.a0 S.a1 S.a2 S.a3=D):=hD;rw[hD]at ks;clear hD;by_cases hle:seq<=D
   ·have E:qa2 S ⟨site,seq,wall,count,d0,d1,d2,d3,ws⟩=9:=by unfold qa2;rw[if_neg (by rw[H.out];decide),if_neg M.out,if_pos (by rw[HD.out];exact hle)]
    have u:=λc z=>N.out c 9 E (by decide) z;clear E N g P
    go_wp2_with fail
    refine qaa (by kernel_rfl) (by kernel_rfl) ?_
    repeat (go_big_quiet_step (first|rfl|fail))
    refine wpQuiet_nil ?_;rintro w3 ⟨⟨_,I⟩,rfl⟩
    go_wp2_with fail
    go_ret;exact(u _ (qac hbw I)).out
   ·obtain⟨mx,v,hL⟩:=qxv waits site seq;have wfs:wfI site:=⟨by omega,by omega⟩;have wfq:wfI seq:=⟨by omega,by omega⟩;have HAS:Hid (∀x:Later w2,Calls prog 149 #[.map (some bm),int i64 site,int i64 seq] x.val λe w'=>e=.returned (.bool v)/\Below x.val.heap.size x.val w'):=λx=>q3i hL wfs wfq x.val (PM2.out.later x.below).map;have HAN:Hid (S.waits.any (λx=>qb5 x ⟨site,seq,wall,count,d0,d1,d2,d3,ws⟩)=v):=q0y (t:=⟨site,seq,wall,count,d0,d1,d2,d3,ws⟩) g.out.2.2.1 hL;have HLE:Hid (¬seq<=D):=hle;have q1:decide (seq<=D)=false:=decide_eq_false hle;cases v
    rotate_left
    ·have E:qa2 S ⟨site,seq,wall,count,d0,d1,d2,d3,ws⟩=9:=by unfold qa2;rw[if_neg (by rw[H.out];decide),if_neg M.out,if_neg (by rw[HD.out];have:=HLE.out;simp only;omega),if_pos HAN.out]
     have u:=λc z=>N.out c 9 E (by decide) z;clear E N g P hL
     go_wp2_with fail
     refine qaa (by kernel_rfl) (by kernel_rfl) ?_
     repeat (go_big_quiet_step (first|rfl|(go_at_call 149;with_reducible exact qab (HAS.out _))))
     refine wpQuiet_nil ?_;rintro w3 ⟨⟨_,I⟩,rfl⟩
     go_wp2_with fail
     go_ret;exact(u _ (qac hbw I)).out
    ·have HNM:Hid (∀x∈waits,qb5 x.t ⟨site,seq,wall,count,d0,d1,d2,d3,ws⟩=false):=λx Q=>by
         cases hi:qb5 x.t ⟨site,seq,wall,count,d0,d1,d2,d3,ws⟩with
         |false=>rfl
         |true=>exact absurd (qe6.1 hi) ((hL.no rfl).2 x Q)
     clear hL
     go_wp2_with fail
     refine qaa (by kernel_rfl) (by kernel_rfl) ?_
     repeat (go_big_quiet_step (first|rfl|(go_at_call 149;with_reducible exact qab (HAS.out _))))
     refine wpQuiet_nil ?_;rintro w3 ⟨⟨_,I⟩,rfl⟩;have PM3:Hid (qc9 w3 b lv bm F S log waits):=PM2.out.later I;have RB3:=RB2.later I;have hbw3:=qac hbw I;have HBA:Hid (Below (w.alloc (.cells #[int i64 site,int i64 seq,int i64 wall,int i64 count,int i64 d0,int i64 d1,int i64 d2,int i64 d3,.slice a ws.length cap] 80)).heap.size (w.alloc (.cells #[int i64 site,int i64 seq,int i64 wall,int i64 count,int i64 d0,int i64 d1,int i64 d2,int i64 d3,.slice a ws.length cap] 80)) w3):=qac HBA2.out I;clear RB2 hbw I HAS hle Y Z ks d8
     have hll:log.length=S.log.length:=by rw[<-g.out.2.1];simp
     have hwl:waits.length=S.waits.length:=by rw[<-g.out.2.2.1];simp
     by_cases hf:200<=log.length
     ·have E:qa2 S ⟨site,seq,wall,count,d0,d1,d2,d3,ws⟩=12:=by unfold qa2;rw[if_neg (by rw[H.out];decide),if_neg M.out,if_neg (by rw[HD.out];have:=HLE.out;simp only;omega),if_neg (by rw[HAN.out];decide),if_pos (by omega)]
      have u:=λc z=>N.out c 12 E (by decide) z;have IF:=qex (decide_eq_true hf) w3 PM3.out;clear E N g P hf hll hwl
      go_wp2_with fail
      refine IF.mono ?_;rintro e d ⟨rfl,R⟩
      go_wp2_with fail
      go_ret;exact(u _ (qac hbw3 R)).out
     ·have IF:=qex (decide_eq_false hf) w3 PM3.out
      have HF:Hid (S.log.length<200):=by show _<_;omega
      have HWL:Hid (waits.length=S.waits.length/\S.waits.length<=990):=⟨hwl,hn⟩;clear hf hll
      go_wp2_with fail
      refine IF.mono ?_;rintro e d ⟨rfl,R⟩;have O:Hid (qc9 d b lv bm F S log waits):=PM3.out.later R;have p:=RB3.later R;have hbw4:=qac hbw3 R;have HW4:Hid (Below (w.alloc (.cells #[int i64 site,int i64 seq,int i64 wall,int i64 count,int i64 d0,int i64 d1,int i64 d2,int i64 d3,.slice a ws.length cap] 80)).heap.size (w.alloc (.cells #[int i64 site,int i64 seq,int i64 wall,int i64 count,int i64 d0,int i64 d1,int i64 d2,int i64 d3,.slice a ws.length cap] 80)) d):=qac HBA.out R;clear RB3 hbw3 R;have d8:=O.out.box.cell 8 _ rfl;obtain⟨hM1,hM2,DD,hown,hMI⟩:=id O.out.map
      have LEN:∀ty,(Builtin.len_ #[141] ty #[.map (some bm)]).run prog d=.ok (int i64 waits.length) d:=λty=>by
          have:=hown.len underlying141 ty;rw[hMI.size]at this;exact this
      clear hM1 hM2 hown hMI;have Y:=(p.cell 0 _ rfl);have Z:=(p.cell 1 _ rfl);have t2:=(p.cell 2 _ rfl);have t3:=(p.cell 3 _ rfl);have t4:=(p.cell 4 _ rfl);have t5:=(p.cell 5 _ rfl);have t6:=(p.cell 6 _ rfl);have t7:=(p.cell 7 _ rfl);have t8:=(p.cell 8 _ rfl);by_cases h40:40<=waits.length
      ·have g40:(40:Int)<=(waits.length:Int):=by omega
       obtain⟨r,hr⟩:∃r,qar S ⟨site,seq,wall,count,d0,d1,d2,d3,ws⟩=r:=⟨_,rfl⟩;have RD:=qmr (v:=r) ⟨⟨site,seq,wall,count,d0,d1,d2,d3,ws⟩,a,cap⟩ d O.out s0 s3 (P.out.dep _) hr;simp only[txV]at RD;have HR:Hid (qar S ⟨site,seq,wall,count,d0,d1,d2,d3,ws⟩=r):=hr;clear hr;cases r
       ·have E:qa2 S ⟨site,seq,wall,count,d0,d1,d2,d3,ws⟩=12:=by unfold qa2;rw[if_neg (by rw[H.out];decide),if_neg M.out,if_neg (by rw[HD.out];have:=HLE.out;simp only;omega),if_neg (by rw[HAN.out];decide),if_neg (by have:=HF.out;omega),if_pos ⟨by have:=HWL.out;omega,HR.out⟩]
        have u:=λc z=>N.out c 12 E (by decide) z;clear E N g P
        go_wp2_with fail
        refine RD.mono ?_;rintro e i ⟨rfl,U⟩
        go_wp2_with fail
        go_ret;exact(u _ (qac hbw4 U)).out
       ·have E0:Hid (qa2 S ⟨site,seq,wall,count,d0,d1,d2,d3,ws⟩=0):=by show _=_;unfold qa2;rw[if_neg (by rw[H.out];decide),if_neg M.out,if_neg (by rw[HD.out];have:=HLE.out;simp only;omega),if_neg (by rw[HAN.out];decide),if_neg (by have:=HF.out;omega),if_neg (λe=>by rw[HR.out]at e;cases e.2)]
        go_wp2_with fail
        refine RD.mono ?_;rintro e i ⟨rfl,U⟩;have PM5:Hid (qc9 i b lv bm F S log waits):=O.out.later U;have RB5:=p.later U;have hbw5:=qac hbw4 U;have HW5:Hid (Below (w.alloc (.cells #[int i64 site,int i64 seq,int i64 wall,int i64 count,int i64 d0,int i64 d1,int i64 d2,int i64 d3,.slice a ws.length cap] 80)).heap.size (w.alloc (.cells #[int i64 site,int i64 seq,int i64 wall,int i64 count,int i64 d0,int i64 d1,int i64 d2,int i64 d3,.slice a ws.length cap] 80)) i):=qac HW4.out U;clear U;have hbW:Below (w.alloc (.cells #[int i64 site,int i64 seq,int i64 wall,int i64 count,int i64 d0,int i64 d1,int i64 d2,int i64 d3,.slice a ws.length cap] 80)).heap.size (w.alloc (.cells #[int i64 site,int i64 seq,int i64 wall,int i64 count,int i64 d0,int i64 d1,int i64 d2,int i64 d3,.slice a ws.length cap] 80)) i:=HW5.out;have HTB:Hid (∀w',qi8 w' bm (waits++[⟨⟨site,seq,wall,count,d0,d1,d2,d3,ws⟩,none,0⟩])->True):=λ_ _=>trivial;have SB:TkB w.heap.size b bm [int i64 site,int i64 seq,int i64 wall,int i64 count,int i64 d0,int i64 d1,int i64 d2,int i64 d3,.slice a ws.length cap] i.drew:=⟨RB5.drew,PM5.out.box.cell 8 _ rfl⟩
        have CP:Hid (Calls prog 138 #[.agg #[int i64 site,int i64 seq,int i64 wall,int i64 count,int i64 d0,int i64 d1,int i64 d2,int i64 d3,.slice a ws.length cap]] i.drew λe w'=>(∃a2 c2,e=.returned (.agg #[int i64 site,int i64 seq,int i64 wall,int i64 count,int i64 d0,int i64 d1,int i64 d2,int i64 d3,.slice a2 ws.length c2])/\Hid (qat w' a2 c2 ws/\(∀k,(⟨⟨site,seq,wall,count,d0,d1,d2,d3,ws⟩,a2,c2⟩:TxM).blk k->i.heap.size<=k)))/\TkB w.heap.size b bm [int i64 site,int i64 seq,int i64 wall,int i64 count,int i64 d0,int i64 d1,int i64 d2,int i64 d3,.slice a ws.length cap] w'/\Below i.heap.size i w'):=
             (qf6 ⟨⟨site,seq,wall,count,d0,d1,d2,d3,ws⟩,a,cap⟩ i.drew (W1.later (hbW.trans (Below.refl _ i).drew)) sw.1 (by have:=sw.2;simp only;omega)).mono λe w' ⟨m2,s,B,o,h4,h5⟩=>by
              obtain⟨t2,a2,c2⟩:=m2;simp only at s;subst s;have j:Below i.heap.size i w':=qac (Below.refl _ i).drew h5;exact⟨⟨a2,c2,B,o,h4⟩,⟨RB5.later j,(PM5.out.later j).box.cell 8 _ rfl⟩,j⟩
        have PU:Hid (∀a2 c2 l,(qat l a2 c2 ws/\(∀k,(⟨⟨site,seq,wall,count,d0,d1,d2,d3,ws⟩,a2,c2⟩:TxM).blk k->i.heap.size<=k))->Below i.heap.size i l->Calls prog 151 #[.map (some bm),.agg #[int i64 site,int i64 seq,int i64 wall,int i64 count,int i64 d0,int i64 d1,int i64 d2,int i64 d3,.slice a2 ws.length c2]] l λe w'=>e=.returned (.tuple #[])/\TkB w.heap.size b bm [int i64 site,int i64 seq,int i64 wall,int i64 count,int i64 d0,int i64 d1,int i64 d2,int i64 d3,.slice a ws.length cap] w'/\Hid (∃n,PS w' b n {S with waits:=S.waits++[⟨site,seq,wall,count,d0,d1,d2,d3,ws⟩]}/\(∀k,n k->G k\/w.heap.size<=k)/\qae G w w')):=λa2 c2 l hh j=>by
             have J:=PM5.out.later j;have R6:=RB5.later j;refine(q0d ⟨⟨site,seq,wall,count,d0,d1,d2,d3,ws⟩,a2,c2⟩ l J.map ⟨⟨by simp only;omega,by simp only;omega⟩,⟨by simp only;omega,by simp only;omega⟩⟩ HNM.out (by have:=HWL.out;omega)).mono λe w' ⟨s,B,o⟩=>⟨s,⟨R6.grown o (λe=>?_),?_⟩,?_⟩
             ·injection e with e;exact HNT.out (by rw[e];exact(g.out.2.2.2 bm).2 (.inl (.inr (.inr (.inl rfl)))))
             ·rw[World.cell?_of_block (w:=l) (o.block b J.box.lt (λe=>J.nm (by injection e with e;exact e.symm)))];exact J.box.cell 8 _ rfl
             ·obtain⟨n,g1,g2,g3⟩:=q28 PM5.out g.out.2.1 g.out.2.2.1 g.out.2.2.2 j hh.1 hh.2 B o;exact⟨n,g1,λk V=>(g2 k V).imp id (λe=>by have:=hbw5.size;omega),(qae.ofBelow hbw5).more g3 (λk V=>.inl V)⟩
        have T0:=λ(w':World) (h:TkB w.heap.size b bm [int i64 site,int i64 seq,int i64 wall,int i64 count,int i64 d0,int i64 d1,int i64 d2,int i64 d3,.slice a ws.length cap] w')=>h.t.cell 0 _ rfl;have T1:=λ(w':World) (h:TkB w.heap.size b bm [int i64 site,int i64 seq,int i64 wall,int i64 count,int i64 d0,int i64 d1,int i64 d2,int i64 d3,.slice a ws.length cap] w')=>h.t.cell 1 _ rfl;have T2:=λ(w':World) (h:TkB w.heap.size b bm [int i64 site,int i64 seq,int i64 wall,int i64 count,int i64 d0,int i64 d1,int i64 d2,int i64 d3,.slice a ws.length cap] w')=>h.t.cell 2 _ rfl;have T3:=λ(w':World) (h:TkB w.heap.size b bm [int i64 site,int i64 seq,int i64 wall,int i64 count,int i64 d0,int i64 d1,int i64 d2,int i64 d3,.slice a ws.length cap] w')=>h.t.cell 3 _ rfl;have T4:=λ(w':World) (h:TkB w.heap.size b bm [int i64 site,int i64 seq,int i64 wall,int i64 count,int i64 d0,int i64 d1,int i64 d2,int i64 d3,.slice a ws.length cap] w')=>h.t.cell 4 _ rfl;have T5:=λ(w':World) (h:TkB w.heap.size b bm [int i64 site,int i64 seq,int i64 wall,int i64 count,int i64 d0,int i64 d1,int i64 d2,int i64 d3,.slice a ws.length cap] w')=>h.t.cell 5 _ rfl;have T6:=λ(w':World) (h:TkB w.heap.size b bm [int i64 site,int i64 seq,int i64 wall,int i64 count,int i64 d0,int i64 d1,int i64 d2,int i64 d3,.slice a ws.length cap] w')=>h.t.cell 6 _ rfl;have T7:=λ(w':World) (h:TkB w.heap.size b bm [int i64 site,int i64 seq,int i64 wall,int i64 count,int i64 d0,int i64 d1,int i64 d2,int i64 d3,.slice a ws.length cap] w')=>h.t.cell 7 _ rfl;have T8:=λ(w':World) (h:TkB w.heap.size b bm [int i64 site,int i64 seq,int i64 wall,int i64 count,int i64 d0,int i64 d1,int i64 d2,int i64 d3,.slice a ws.length cap] w')=>h.t.cell 8 _ rfl;have TM:=λ(w':World) (h:TkB w.heap.size b bm [int i64 site,int i64 seq,int i64 wall,int i64 count,int i64 d0,int i64 d1,int i64 d2,int i64 d3,.slice a ws.length cap] w')=>h.m;clear HTB Y Z t2 t3 t4 t5 t6 t7 t8 d8 LEN
        go_wp2_with fail
        go_region_held3 (λw'=>TkB w.heap.size b bm [int i64 site,int i64 seq,int i64 wall,int i64 count,int i64 d0,int i64 d1,int i64 d2,int i64 d3,.slice a ws.length cap] w') (with_reducible assumption)
             (first
               |(go_at_call 138;with_reducible refine CP.out.mono ?_;rintro e l ⟨⟨a2,c2,rfl,HC6⟩,N6,hb6⟩)
               |(go_at_call 151;with_reducible refine(PU.out a2 c2 _ HC6.out hb6).mono ?_;rintro e W ⟨rfl,N7,HP7⟩))
        all_goals
             clear T0 T1 T2 T3 T4 T5 T6 T7 T8 TM;obtain⟨n,q1,q2,q3⟩:=HP7.out;have AR:=qiy W q1 (P.out.wait H.out M.out (λx Q=>by rw[<-g.out.2.2.1]at Q;obtain⟨y,hy,rfl⟩:=List.mem_map.1 Q;exact HNM.out y hy)) (by have:=HWL.out;simp;omega);have HGO:Hid (∀S' w',PPo W b n S' w'->PPo w b G S' w'):=λS' w' K=>GO0.out W n S' q2 q3 w' K;clear q1 q2 q3
             go_wp2_with fail
             refine AR.mono ?_;rintro e w8 ⟨rfl,S',hgo,K⟩;have HF9:Hid (∃S',qbu S ⟨site,seq,wall,count,d0,d1,d2,d3,ws⟩ S'/\PPo w b G S' w8):=⟨S',.inr ⟨E0.out,hgo⟩,HGO.out S' w8 K⟩;clear hgo K
             go_wp2_with fail
             go_ret;refine⟨?_,HF9.out⟩;rw[E0.out];rfl
      ·have g40:¬(40:Int)<=(waits.length:Int):=by omega
       have E0:Hid (qa2 S ⟨site,seq,wall,count,d0,d1,d2,d3,ws⟩=0):=by show _=_;unfold qa2;rw[if_neg (by rw[H.out];decide),if_neg M.out,if_neg (by rw[HD.out];have:=HLE.out;simp only;omega),if_neg (by rw[HAN.out];decide),if_neg (by have:=HF.out;omega),if_neg (λe=>by have:=HWL.out;omega)]
       go_wp2_with fail
       have hbW:Below (w.alloc (.cells #[int i64 site,int i64 seq,int i64 wall,int i64 count,int i64 d0,int i64 d1,int i64 d2,int i64 d3,.slice a ws.length cap] 80)).heap.size (w.alloc (.cells #[int i64 site,int i64 seq,int i64 wall,int i64 count,int i64 d0,int i64 d1,int i64 d2,int i64 d3,.slice a ws.length cap] 80)) d:=HW4.out;have HTB:Hid (∀w',qi8 w' bm (waits++[⟨⟨site,seq,wall,count,d0,d1,d2,d3,ws⟩,none,0⟩])->True):=λ_ _=>trivial;have SB:TkB w.heap.size b bm [int i64 site,int i64 seq,int i64 wall,int i64 count,int i64 d0,int i64 d1,int i64 d2,int i64 d3,.slice a ws.length cap] d.drew:=⟨p.drew,O.out.box.cell 8 _ rfl⟩
       have CP:Hid (Calls prog 138 #[.agg #[int i64 site,int i64 seq,int i64 wall,int i64 count,int i64 d0,int i64 d1,int i64 d2,int i64 d3,.slice a ws.length cap]] d.drew λe w'=>(∃a2 c2,e=.returned (.agg #[int i64 site,int i64 seq,int i64 wall,int i64 count,int i64 d0,int i64 d1,int i64 d2,int i64 d3,.slice a2 ws.length c2])/\Hid (qat w' a2 c2 ws/\(∀k,(⟨⟨site,seq,wall,count,d0,d1,d2,d3,ws⟩,a2,c2⟩:TxM).blk k->d.heap.size<=k)))/\TkB w.heap.size b bm [int i64 site,int i64 seq,int i64 wall,int i64 count,int i64 d0,int i64 d1,int i64 d2,int i64 d3,.slice a ws.length cap] w'/\Below d.heap.size d w'):=
           (qf6 ⟨⟨site,seq,wall,count,d0,d1,d2,d3,ws⟩,a,cap⟩ d.drew (W1.later (hbW.trans (Below.refl _ d).drew)) sw.1 (by have:=sw.2;simp only;omega)).mono λe w' ⟨m2,s,B,o,h4,h5⟩=>by
             obtain⟨t2,a2,c2⟩:=m2;simp only at s;subst s;have j:Below d.heap.size d w':=qac (Below.refl _ d).drew h5;exact⟨⟨a2,c2,B,o,h4⟩,⟨p.later j,(O.out.later j).box.cell 8 _ rfl⟩,j⟩
       have PU:Hid (∀a2 c2 l,(qat l a2 c2 ws/\(∀k,(⟨⟨site,seq,wall,count,d0,d1,d2,d3,ws⟩,a2,c2⟩:TxM).blk k->d.heap.size<=k))->Below d.heap.size d l->Calls prog 151 #[.map (some bm),.agg #[int i64 site,int i64 seq,int i64 wall,int i64 count,int i64 d0,int i64 d1,int i64 d2,int i64 d3,.slice a2 ws.length c2]] l λe w'=>e=.returned (.tuple #[])/\TkB w.heap.size b bm [int i64 site,int i64 seq,int i64 wall,int i64 count,int i64 d0,int i64 d1,int i64 d2,int i64 d3,.slice a ws.length cap] w'/\Hid (∃n,PS w' b n {S with waits:=S.waits++[⟨site,seq,wall,count,d0,d1,d2,d3,ws⟩]}/\(∀k,n k->G k\/w.heap.size<=k)/\qae G w w')):=λa2 c2 l hh j=>by
           have J:=O.out.later j;have R6:=p.later j;refine(q0d ⟨⟨site,seq,wall,count,d0,d1,d2,d3,ws⟩,a2,c2⟩ l J.map ⟨⟨by simp only;omega,by simp only;omega⟩,⟨by simp only;omega,by simp only;omega⟩⟩ HNM.out (by have:=HWL.out;omega)).mono λe w' ⟨s,B,o⟩=>⟨s,⟨R6.grown o (λe=>?_),?_⟩,?_⟩
           ·injection e with e;exact HNT.out (by rw[e];exact(g.out.2.2.2 bm).2 (.inl (.inr (.inr (.inl rfl)))))
           ·rw[World.cell?_of_block (w:=l) (o.block b J.box.lt (λe=>J.nm (by injection e with e;exact e.symm)))];exact J.box.cell 8 _ rfl
           ·obtain⟨n,g1,g2,g3⟩:=q28 O.out g.out.2.1 g.out.2.2.1 g.out.2.2.2 j hh.1 hh.2 B o;exact⟨n,g1,λk V=>(g2 k V).imp id (λe=>by have:=hbw4.size;omega),(qae.ofBelow hbw4).more g3 (λk V=>.inl V)⟩
       have T0:=λ(w':World) (h:TkB w.heap.size b bm [int i64 site,int i64 seq,int i64 wall,int i64 count,int i64 d0,int i64 d1,int i64 d2,int i64 d3,.slice a ws.length cap] w')=>h.t.cell 0 _ rfl;have T1:=λ(w':World) (h:TkB w.heap.size b bm [int i64 site,int i64 seq,int i64 wall,int i64 count,int i64 d0,int i64 d1,int i64 d2,int i64 d3,.slice a ws.length cap] w')=>h.t.cell 1 _ rfl;have T2:=λ(w':World) (h:TkB w.heap.size b bm [int i64 site,int i64 seq,int i64 wall,int i64 count,int i64 d0,int i64 d1,int i64 d2,int i64 d3,.slice a ws.length cap] w')=>h.t.cell 2 _ rfl;have T3:=λ(w':World) (h:TkB w.heap.size b bm [int i64 site,int i64 seq,int i64 wall,int i64 count,int i64 d0,int i64 d1,int i64 d2,int i64 d3,.slice a ws.length cap] w')=>h.t.cell 3 _ rfl;have T4:=λ(w':World) (h:TkB w.heap.size b bm [int i64 site,int i64 seq,int i64 wall,int i64 count,int i64 d0,int i64 d1,int i64 d2,int i64 d3,.slice a ws.length cap] w')=>h.t.cell 4 _ rfl;have T5:=λ(w':World) (h:TkB w.heap.size b bm [int i64 site,int i64 seq,int i64 wall,int i64 count,int i64 d0,int i64 d1,int i64 d2,int i64 d3,.slice a ws.length cap] w')=>h.t.cell 5 _ rfl;have T6:=λ(w':World) (h:TkB w.heap.size b bm [int i64 site,int i64 seq,int i64 wall,int i64 count,int i64 d0,int i64 d1,int i64 d2,int i64 d3,.slice a ws.length cap] w')=>h.t.cell 6 _ rfl;have T7:=λ(w':World) (h:TkB w.heap.size b bm [int i64 site,int i64 seq,int i64 wall,int i64 count,int i64 d0,int i64 d1,int i64 d2,int i64 d3,.slice a ws.length cap] w')=>h.t.cell 7 _ rfl;have T8:=λ(w':World) (h:TkB w.heap.size b bm [int i64 site,int i64 seq,int i64 wall,int i64 count,int i64 d0,int i64 d1,int i64 d2,int i64 d3,.slice a ws.length cap] w')=>h.t.cell 8 _ rfl;have TM:=λ(w':World) (h:TkB w.heap.size b bm [int i64 site,int i64 seq,int i64 wall,int i64 count,int i64 d0,int i64 d1,int i64 d2,int i64 d3,.slice a ws.length cap] w')=>h.m;clear HTB Y Z t2 t3 t4 t5 t6 t7 t8 d8 LEN
       go_wp2_with fail
       go_region_held3 (λw'=>TkB w.heap.size b bm [int i64 site,int i64 seq,int i64 wall,int i64 count,int i64 d0,int i64 d1,int i64 d2,int i64 d3,.slice a ws.length cap] w') (with_reducible assumption)
           (first
             |(go_at_call 138;with_reducible refine CP.out.mono ?_;rintro e l ⟨⟨a2,c2,rfl,HC6⟩,N6,hb6⟩)
             |(go_at_call 151;with_reducible refine(PU.out a2 c2 _ HC6.out hb6).mono ?_;rintro e W ⟨rfl,N7,HP7⟩))
       all_goals
           clear T0 T1 T2 T3 T4 T5 T6 T7 T8 TM;obtain⟨n,q1,q2,q3⟩:=HP7.out;have AR:=qiy W q1 (P.out.wait H.out M.out (λx Q=>by rw[<-g.out.2.2.1]at Q;obtain⟨y,hy,rfl⟩:=List.mem_map.1 Q;exact HNM.out y hy)) (by have:=HWL.out;simp;omega);have HGO:Hid (∀S' w',PPo W b n S' w'->PPo w b G S' w'):=λS' w' K=>GO0.out W n S' q2 q3 w' K;clear q1 q2 q3
           go_wp2_with fail
           refine AR.mono ?_;rintro e w8 ⟨rfl,S',hgo,K⟩;have HF9:Hid (∃S',qbu S ⟨site,seq,wall,count,d0,d1,d2,d3,ws⟩ S'/\PPo w b G S' w8):=⟨S',.inr ⟨E0.out,hgo⟩,HGO.out S' w8 K⟩;clear hgo K
           go_wp2_with fail
           go_ret;refine⟨?_,HF9.out⟩;rw[E0.out];rfl
end
section
theorem q2a {lw lc now x y ne:Int} (h:qeo lw lc now=(x,y,ne)) (w:World):
 Calls Tryz.prog 136 #[.agg #[.int .i64 lw,.int .i64 lc],.int .i64 now] w λe w'=>e=.returned (.tuple #[.agg #[.int .i64 x,.int .i64 y],qa9 ne])/\Below w.heap.size w w':=by
 unfold qeo at h;split at h
 ·rename_i g;injection h with h1 h2;injection h2 with h2 h3;subst h1 h2 h3;exact qsq lw lc now w g
 ·rename_i g
  have g':(qai lw&&qai lc)=true:=by simpa using g
  have hb:0<=lc/\lc<=1099511627776:=by
   have i:=g';simp[qai]at i;omega
  split at h
  ·rename_i c;injection h with h1 h2;injection h2 with h2 h3;subst h1 h2 h3;exact qs1 lw lc now w g' c
  ·rename_i c
   have d:qai now=true:=by simpa using c
   split at h
   ·rename_i a;injection h with h1 h2;injection h2 with h2 h3;subst h1 h2 h3;exact q0e lw lc now w g' d a
   ·rename_i a;split at h
    ·rename_i j;injection h with h1 h2;injection h2 with h2 h3;subst h1 h2 h3;exact qz8 lw lc now w g' d a (by simp;omega)
    ·rename_i j;injection h with h1 h2;injection h2 with h2 h3;subst h1 h2 h3;exact qv9 lw lc now w g' d a (by simp;omega) hb.1 (by omega)
def qk9 (S:qaf) (now d0 d1 d2 d3:Int) (ws:List Wr):Int:=qay S S.log.length now d0 d1 d2 d3 ws
def qna (S:qaf) (now d0 d1 d2 d3:Int) (ws:List Wr):TxP:=if qk9 S now d0 d1 d2 d3 ws=0 then qbt S now d0 d1 d2 d3 ws else ⟨0,0,0,0,0,0,0,0,[]⟩
def qkq (S:qaf) (now d0 d1 d2 d3:Int) (ws:List Wr):qaf:=if qk9 S now d0 d1 d2 d3 ws=0 then qbr S (qbt S now d0 d1 d2 d3 ws)else S
def qtd (w:World) (b:Nat) (G:Nat->Prop) (S:qaf) (now d0 d1 d2 d3:Int) (ws:List Wr) (e:Ending) (w':World):Prop:=
 ∃(m:TxM) (G':Nat->Prop),e=.returned (.tuple #[txV m,qa9 (qk9 S now d0 d1 d2 d3 ws)])/\m.t=qna S now d0 d1 d2 d3 ws/\Hid (qat w' m.wa m.wc m.t.ws/\PS w' b G' (qkq S now d0 d1 d2 d3 ws)/\(∀k,G' k->G k\/w.heap.size<=k)/\qae G w w'/\∀k,m.blk k->w.heap.size<=k/\¬G' k)
variable {w:World} {b:Nat}
theorem qco {tmps:Array Value} {m:TxM} {ev:Value} (h:qag w b (txC m)) (a:tmps[8]?=some (.pointer (some ⟨b,0,none⟩))) (c:tmps[9]?=some ev):
 (results Tryz.f109 tmps).run Tryz.prog w=.ok (.tuple #[txV m,ev]) w:=by
 obtain⟨d,e,g,i,j,k,l,n,o⟩:=h.c9;simp[results,Tryz.results109,go_sem,a,c,d,e,g,i,j,k,l,n,o,txV]
variable {S:qaf} {d0 d1 d2 d3:Int} {ws:List Wr}
theorem qoa {now:Int} (a:qcr S) (h:qk9 S now d0 d1 d2 d3 ws=0):qcr (qbr S (qbt S now d0 d1 d2 d3 ws))/\1<=ws.length/\ws.length<=5/\S.log.length<200:=by
 obtain⟨d,f,g,i,j⟩:=qhh h
 have c:1<=ws.length/\ws.length<=5:=by
  simp only[qd7,Bool.and_eq_true,qa5]at d;omega
 have k:=a.own;have e:=a.dep S.id;refine⟨a.applied ⟨a.id0,a.id3⟩ ⟨?_,?_⟩ c (λ_=>?_) (by omega),c.1,c.2,by omega⟩
 ·show 0<=qao S.id _ _ _ _+1;have:=e.1;omega
 ·show qao S.id _ _ _ _+1<=_;omega
 ·show qao S.id _ _ _ _+1<=_;omega
variable {F:Nat->Prop} {W:World}
theorem qdg {p:Addr} (h:qae F w W) (d:w.heap.size<=p.block) (v:Value):qae F w (W.setCell p v):=
 ⟨h.os,h.tape,h.output,by simpa[World.setCell]using h.size,λk a c=>(Below.heap_setCell _ _ _ _ (by omega)).trans (h.block k a c)⟩
theorem qua (h:qae F w W) (a:w.heap.size<=b) (x0 x1 x2 x3 c d e f:Int) (v:Value):qae F w (qbg W b x0 x1 x2 x3 c d e f v):=
 qdg (qdg (qdg (qdg (qdg (qdg (qdg (qdg (qdg h a _) a _) a _) a _) a _) a _) a _) a _) a _
theorem qwf {s l i:World} {lv p:Value} {bm:Nat} {F' G:Nat->Prop} {log waits:List TxM} {now:Int} {x0 x1 x2 x3 a c d f:Int} {u wa2:Option Addr} {v wc2:Nat} (L:PS w b G S) (M:Below w.heap.size w s) (V:w.heap.size+1<s.heap.size)
 (B:qc9 l b p bm F' (qbr S ⟨x0,x1,x2,x3,a,c,d,f,ws⟩) (log++[⟨⟨x0,x1,x2,x3,a,c,d,f,ws⟩,u,v⟩]) waits) (C:∀k,qa4 b p bm F' k->qa4 b lv bm F k\/s.heap.size<=k) (r:qae (qa4 b lv bm F) s l)
 (D:∀k,(⟨⟨x0,x1,x2,x3,a,c,d,f,ws⟩,u,v⟩:TxM).blk k->w.heap.size+1<k) (E:log.map (·.t)=S.log) (H:waits.map (·.t)=S.waits) (n:∀k,G k↔(qa4 b lv bm F k\/∃m∈log++waits,m.blk k)) (I:Below l.heap.size l i)
 (N:qat i wa2 wc2 ws) (x:∀k,(⟨⟨x0,x1,x2,x3,a,c,d,f,ws⟩,wa2,wc2⟩:TxM).blk k->w.heap.size+1<k/\l.heap.size<=k) (J:qbt S now d0 d1 d2 d3 ws=⟨x0,x1,x2,x3,a,c,d,f,ws⟩) (y:qk9 S now d0 d1 d2 d3 ws=0):
 Hid (qtd w b G S now d0 d1 d2 d3 ws (.returned (.tuple #[txV ⟨⟨x0,x1,x2,x3,a,c,d,f,ws⟩,wa2,wc2⟩,.nilIface])) (qbg i (w.heap.size+1) x0 x1 x2 x3 a c d f (.slice wa2 ws.length wc2))):=by
 have O:qae G w i:=((qae.ofBelow M).more ⟨r.os,r.tape,r.output,r.size,λk j P=>r.block k j (λe=>P ((n k).2 (.inl e)))⟩ (λk j=>.inl j)).trans (qae.ofBelow I);have K:∀k,k≠w.heap.size+1->(qbg i (w.heap.size+1) x0 x1 x2 x3 a c d f (.slice wa2 ws.length wc2)).heap[k]?=i.heap[k]?:=λk j=>qda j x0 x1 x2 x3 a c d f _
 have X:(qbg i (w.heap.size+1) x0 x1 x2 x3 a c d f (.slice wa2 ws.length wc2)).heap.size=i.heap.size:=by simp only[qbg,World.setCell,Array.size_modify]
 have Q:qae G w (qbg i (w.heap.size+1) x0 x1 x2 x3 a c d f (.slice wa2 ws.length wc2)):=qua O (Nat.le_succ _) _ _ _ _ _ _ _ _ _
 generalize qbg i (w.heap.size+1) x0 x1 x2 x3 a c d f (.slice wa2 ws.length wc2)=W at*
 have R:=B.later I;have z:=L.lt
 have T:PS W b (λk=>qa4 b p bm F' k\/∃m∈(log++[⟨⟨x0,x1,x2,x3,a,c,d,f,ws⟩,u,v⟩])++waits,m.blk k) (qbr S ⟨x0,x1,x2,x3,a,c,d,f,ws⟩):=by
  refine⟨p,bm,F',_,waits,R.kept (λk j=>K k (λe=>?_)) (by omega),by rw[List.map_append,E];rfl,H,λk=>Iff.rfl⟩;rcases j with g|⟨m,A,g⟩
  ·rcases C k g with h|h
   ·have:=z k ((n k).2 (.inl h));omega
   ·omega
  ·rcases List.mem_append.1 A with h|h
   ·rcases List.mem_append.1 h with o|o
    ·have:=z k ((n k).2 (.inr ⟨m,List.mem_append.2 (.inl o),g⟩));omega
    ·rw[List.mem_singleton.1 o]at g;have:=D k g;omega
   ·have:=z k ((n k).2 (.inr ⟨m,List.mem_append.2 (.inr h),g⟩));omega
 have U:∀k,(qa4 b p bm F' k\/∃m∈(log++[⟨⟨x0,x1,x2,x3,a,c,d,f,ws⟩,u,v⟩])++waits,m.blk k)->k<l.heap.size:=PS.lt (w:=l) (b:=b) (S:=qbr S ⟨x0,x1,x2,x3,a,c,d,f,ws⟩) ⟨p,bm,F',_,waits,B,by rw[List.map_append,E];rfl,H,λk=>Iff.rfl⟩;refine⟨⟨⟨x0,x1,x2,x3,a,c,d,f,ws⟩,wa2,wc2⟩,_,by rw[y];rfl,?_,qat.kept (m:=⟨⟨x0,x1,x2,x3,a,c,d,f,ws⟩,wa2,wc2⟩) (w:=i) N (λk e=>K k (by have:=(x k e).1;omega)),by unfold qkq;rw[if_pos y,J];exact T,λk j=>?_,Q,λk e=>⟨by have:=(x k e).1;omega,λq=>by have:=U k q;have:=(x k e).2;omega⟩⟩
 ·unfold qna;rw[if_pos y,J]
 ·rcases j with g|⟨m,A,g⟩
  ·rcases C k g with h|h
   ·exact .inl ((n k).2 (.inl h))
   ·exact .inr (by omega)
  ·rcases List.mem_append.1 A with h|h
   ·rcases List.mem_append.1 h with o|o
    ·exact .inl ((n k).2 (.inr ⟨m,List.mem_append.2 (.inl o),g⟩))
    ·rw[List.mem_singleton.1 o]at g;have:=D k g;exact .inr (by omega)
   ·exact .inl ((n k).2 (.inr ⟨m,List.mem_append.2 (.inr h),g⟩))
end
def qwt (S:qaf) (s:Int):Int:=qao s S.a0 S.a1 S.a2 S.a3
theorem quw {S:qaf} (h:qgw S=none):∀x∈S.waits,0<=x.site->x.site<=3->qar S x=false:=by
 have a:qd4 S 0=none/\qd4 S 1=none/\qd4 S 2=none/\qd4 S 3=none:=by
  unfold qgw at h;split at h
  ·cases h
  ·rename_i p0;split at h
   ·cases h
   ·rename_i p1;split at h
    ·cases h
    ·rename_i p2;exact⟨p0,p1,p2,h⟩
 intro x b d f
 have c:x.site=0\/x.site=1\/x.site=2\/x.site=3:=by omega
 rcases c with e|e|e|e
 ·exact qgo a.1 x b e
 ·exact qgo a.2.1 x b e
 ·exact qgo a.2.2.1 x b e
 ·exact qgo a.2.2.2 x b e
theorem q1d {lw lc now:Int} (h:(qeo lw lc now).2.2=0):qai (qeo lw lc now).1=true/\qai (qeo lw lc now).2.1=true/\qio lw lc (qeo lw lc now).1 (qeo lw lc now).2.1<0:=by
 unfold qeo at h ⊢;split
 ·rename_i g;rw[if_pos g]at h;cases h
 ·rename_i g;rw[if_neg g]at h
  have g':(qai lw&&qai lc)=true:=by simpa using g
  rw[Bool.and_eq_true,qej,qej]at g';split
  ·rename_i b;rw[if_pos b]at h;cases h
  ·rename_i b;rw[if_neg b]at h
   have f:qai now=true:=by simpa using b
   split
   ·rename_i c;show qai now=true/\qai 0=true/\qio lw lc now 0<0;refine⟨f,qgj (by decide) (by decide),?_⟩
    rcases qdw lw lc now 0 with ⟨a,e⟩|⟨a,e⟩|⟨a,e⟩<;>simp only[e]<;>omega
   ·rename_i c;rw[if_neg c]at h;split
    ·rename_i d;rw[if_pos d]at h;cases h
    ·rename_i d;show qai lw=true/\qai (lc+1)=true/\qio lw lc lw (lc+1)<0;refine⟨qgj g'.1.1 g'.1.2,qgj (by omega) (by omega),?_⟩
     rcases qdw lw lc lw (lc+1)with ⟨a,e⟩|⟨a,e⟩|⟨a,e⟩<;>simp only[e]<;>omega
theorem qzu (i q d0 d1 d2 d3 s:Int) (b:0<=s) (c:s<=3):qao s (qf8 i q d0) (qf7 i q d1) (qgf i q d2) (qf5 i q d3)=if s=i then q else qao s d0 d1 d2 d3:=by
 have a:s=0\/s=1\/s=2\/s=3:=by omega
 rcases a with rfl|rfl|rfl|rfl<;>simp[qao,qf8,qf7,qgf,qf5,eq_comm]
theorem Goes.log {S S':qaf} (h:Goes S S'):(∀x∈S.log,x∈S'.log)/\S'.waits.length<=S.waits.length:=by
 induction h with
 |full _=>exact⟨λ_ h=>h,Nat.le_refl _⟩
 |none _=>exact⟨λ_ h=>h,Nat.le_refl _⟩
 |step _ _ _ ih=>exact⟨λx a=>ih.1 x (List.mem_append.2 (.inl a)),Nat.le_trans ih.2 (List.length_filter_le _ _)⟩
structure qbp where
 p0:Int
 p1:Int
 p2:Int
 p3:Int
 opn:Bool
 s0:Int
 s1:Int
 s2:Int
 s3:Int
 ws:List Wr
def qg3:qbp:=⟨0,0,0,0,false,0,0,0,0,[]⟩
def qe7 (l:List Wr) (key:Int):Option Wr:=l.reverse.find? (λx=>decide (x.key=key))
theorem qlw (l:List Wr) (x:Wr) (key:Int):qe7 (l++[x]) key=if x.key=key then some x else qe7 l key:=by
 unfold qe7;rw[List.reverse_append];by_cases h:x.key=key
 ·simp[h]
 ·simp[h]
def qbs (l:List Wr):List Wr:=(List.range 8).filterMap (λ(k:Nat)=>qe7 l (k:Int))
def qdi (l:List Wr) (k:Nat):List Wr:=(List.range k).filterMap (λ(k:Nat)=>qe7 l (k:Int))
theorem qib (l:List Wr) (k:Nat):qdi l (k+1)=qdi l k++(match qe7 l (k:Int)with|some x=>[x]|none=>[]):=by
 unfold qdi;rw[List.range_succ,List.filterMap_append]
 cases h:qe7 l (k:Int)<;>simp[h]
theorem qj5 (l:List Wr) (k:Nat):(qdi l k).length<=k:=by
 unfold qdi;have:=List.length_filterMap_le (λ(k:Nat)=>qe7 l (k:Int)) (List.range k);simpa using this
theorem qm6 (l:List Wr) (x:Wr) (k:Nat) (c:0<=x.key):(qdi (l++[x]) k).length=(qdi l k).length+if x.key<k/\qe7 l x.key=none then 1 else 0:=by
 induction k with
 |zero=>simp[qdi];omega
 |succ k ih=>
  rw[qib,qib,List.length_append,List.length_append,ih,qlw];by_cases h:x.key=(k:Int)
  ·rw[if_pos h,h];cases ho:qe7 l (k:Int)with
   |none=>
    rw[if_neg (by omega),if_pos ⟨by omega,rfl⟩];simp
   |some y=>
    rw[if_neg (by omega),if_neg (by simp)];simp
  ·rw[if_neg h]
   have e:(x.key<(k:Int)/\qe7 l x.key=none)↔(x.key<((k+1:Nat):Int)/\qe7 l x.key=none):=by
        constructor
        ·rintro ⟨a,b⟩;exact⟨by omega,b⟩
        ·rintro ⟨a,b⟩;exact⟨by omega,b⟩
   by_cases g:x.key<(k:Int)/\qe7 l x.key=none
   ·rw[if_pos g,if_pos (e.1 g)];omega
   ·rw[if_neg g,if_neg (λh=>g (e.2 h))];omega
def qn5 (S:qaf) (s:qbp):Int:=if s.opn=true then 6 else if qe3 S.a0 S.a1 S.a2 S.a3 s.p0 s.p1 s.p2 s.p3=false then 10 else 0
def qne (S:qaf) (s:qbp):qbp:=if qn5 S s=0 then {s with opn:=true,s0:=S.a0,s1:=S.a1,s2:=S.a2,s3:=S.a3,ws:=[]}else s
def qc0 (S:qaf) (s:qbp) (key:Int):ByteArray×Int:=
 if s.opn=false then (⟨#[]⟩,6)else match qe7 s.ws key with
    |some x=>if x.gone=true then (⟨#[]⟩,8)else (x.data,0)
    |none=>((qer S key s.s0 s.s1 s.s2 s.s3).1.data,(qer S key s.s0 s.s1 s.s2 s.s3).2)
def qfi (s:qbp) (x:Wr):Int:=
 if s.opn=false then 6 else if x.key<0\/8<=x.key then 2 else if 12<x.data.size then 4 else if x.gone=true/\x.data.size≠0 then 1 else if qe7 s.ws x.key=none/\5<=(qbs s.ws).length then 12 else 0
def qk2 (s:qbp) (x:Wr):qbp:=if qfi s x=0 then {s with ws:=s.ws++[x]}else s
def qil (s:qbp):qbp:=⟨qb1 s.p0 s.s0,qb1 s.p1 s.s1,qb1 s.p2 s.s2,qb1 s.p3 s.s3,false,0,0,0,0,[]⟩
def qps (s:qbp):Int:=if s.opn=false then 6 else 0
def qnz (s:qbp):qbp:=if s.opn=false then s else qil s
def qe9 (S:qaf) (s:qbp) (now:Int):Int:=if s.opn=false then 6 else if (qbs s.ws).length=0 then 0 else qk9 S now s.s0 s.s1 s.s2 s.s3 (qbs s.ws)
def qem (S:qaf) (s:qbp) (now:Int):TxP:=if s.opn=false\/(qbs s.ws).length=0 then ⟨0,0,0,0,0,0,0,0,[]⟩else qna S now s.s0 s.s1 s.s2 s.s3 (qbs s.ws)
def qks (site seq:Int) (s:qbp):qbp:={s with p0:=if site=0 then qb1 s.p0 seq else s.p0,p1:=if site=1 then qb1 s.p1 seq else s.p1,p2:=if site=2 then qb1 s.p2 seq else s.p2,p3:=if site=3 then qb1 s.p3 seq else s.p3}
def qbf (S:qaf) (s:qbp) (now:Int):qbp:=if qe9 S s now≠0 then s else if (qbs s.ws).length=0 then qil s else qks (qem S s now).site (qem S s now).seq (qil s)
def qd9 (S:qaf) (s:qbp) (now:Int):qaf:=if s.opn=false\/(qbs s.ws).length=0 then S else qkq S now s.s0 s.s1 s.s2 s.s3 (qbs s.ws)
theorem qcr.scom {S:qaf} {s:qbp} {now:Int} (h:qcr S):qcr (qd9 S s now):=by
 unfold qd9 qkq;split
 ·exact h
 ·split
  ·rename_i g;exact(qoa h g).1
  ·exact h
section
def qf0 (S:qaf) (h0 h1 h2 h3:Int):List TxP:=S.log.filter (λt=>decide (qao t.site h0 h1 h2 h3<t.seq))
variable {S:qaf}
theorem qrj {log:List TxM} (h:log.map (·.t)=S.log) (a b c d:Int):(log.filter (qe4 a b c d)).map (·.t)=qf0 S a b c d:=by
 unfold qf0;rw[<-h,List.filter_map];rfl
def q3v (w:World) (L:List TxP) (v:Value) (w':World):Prop:=∃kept:List TxM,kept.map (·.t)=L/\(∃B,w.heap.size<=B/\w'.ownsRow B 80 9 v kept.length (qef kept))/\(∀m∈kept,qat w' m.wa m.wc m.t.ws/\∀j,m.blk j->w.heap.size<=j)/\Below w.heap.size w w'
theorem qq9 {b:Nat} {G:Nat->Prop} (a c d g:Int) (w:World) (h:PS w b G S) (j:qcr S):
 Calls Tryz.prog 154 #[.pointer (some ⟨b,0,none⟩),.agg #[.int .i64 a,.int .i64 c,.int .i64 d,.int .i64 g]] w λe w'=>∃v,e=.returned v/\q3v w (qf0 S a c d g) v w':=by
 obtain⟨lv,bm,F,log,waits,h,i,_,_⟩:=h
 have r:log.length=S.log.length:=by rw[<-i];simp
 refine(qr3 a c d g w h (λm k=>j.lsite m.t (by rw[<-i];exact List.mem_map.2 ⟨m,k,rfl⟩)) (by have:=j.log;omega)).mono λe w' ⟨v,l,kept,n,o,p,q⟩=>⟨v,l,kept,?_,o,p,q⟩;rw[<-n];exact qrj i _ _ _ _
end
section
open Tryz Go.Value Go.IntKind
theorem qom {n:Int} {v:Bool} (h:(decide (0<=n)&&decide (n<4))=v) (w:World):
 Calls prog 69 #[int i64 n] w λe w'=>e=.returned (.bool v)/\w'=w:=by
 by_cases a:0<=n
 ·by_cases b:n<4
  ·have e:v=true:=by rw[<-h];simp[a,b]
   subst e;clear h;go_enter func69,ntmps69
   go_wp2_with fail
   go_ret;exact⟨rfl,rfl⟩
  ·have e:v=false:=by rw[<-h];simp[b]
   subst e;clear h;go_enter func69,ntmps69
   go_wp2_with fail
   go_ret;exact⟨rfl,rfl⟩
 ·have e:v=false:=by rw[<-h];simp[a]
  subst e;clear h;go_enter func69,ntmps69
  go_wp2_with fail
  go_ret;exact⟨rfl,rfl⟩
theorem q5l {w:World} {id:Int} (b:List Value) (d:b=[int i64 id,int i64 0,int i64 0,int i64 0,int i64 0,int i64 0,int i64 0,.slice none 0 0,.map (some w.heap.size),int i64 0,int i64 0,int i64 0,int i64 0,int i64 0,int i64 0,int i64 0,int i64 0,int i64 0,int i64 0,int i64 0,int i64 0,int i64 0,int i64 0,int i64 0,int i64 0,.slice none 0 0,.slice none 0 0,.slice none 0 0,.slice none 0 0,.slice none 0 0,.slice none 0 0,.slice none 0 0,.slice none 0 0]) (T:TypeId):
 PS ((w.alloc (.map #[] 0)).alloc (.cells b.toArray T)) (w.heap.size+1) (λk=>k=w.heap.size+1\/k=w.heap.size) (qmz id):=by
 have f:(w.alloc (.map #[] 0)).heap.size=w.heap.size+1:=by simp
 have R:=qag.new (w:=w.alloc (.map #[] 0)) (T:=T) (n:=w.heap.size+1) b f
 generalize l:(w.alloc (.map #[] 0)).alloc (.cells b.toArray T)=W at R
 have hb:=boxed (Below.refl _ (w.alloc (.map #[] 0))) (.cells b.toArray T);rw[l]at hb;have o:=(qi8.made w).kept (hb.block _ (qi8.made w).lt);subst d;refine⟨.slice none 0 0,w.heap.size,λk=>qiq (w.heap.size+1) (λ_=>.slice none 0 0) k,[],[],⟨⟨λj v c=>?_,λj a=>R.free j (by simp[qb4]at a ⊢;omega),R.lt⟩,?_,World.ownsRow_nil _ _ _ _,o,by simp[Value.ownBlock],by omega,by simp[Value.ownBlock],λk e=>by simp[Value.ownBlock]at e,?_,by simp⟩,rfl,rfl,λk=>?_⟩
 ·refine R.cell j v ?_
  have a:j<25:=by
   have:=(List.getElem?_eq_some_iff.1 c).1;simpa[qb4]using this
  rw[<-c]
  match j,a with
  |0,_=>rfl
  |1,_=>rfl
  |2,_=>rfl
  |3,_=>rfl
  |4,_=>rfl
  |5,_=>rfl
  |6,_=>rfl
  |7,_=>rfl
  |8,_=>rfl
  |9,_=>rfl
  |10,_=>rfl
  |11,_=>rfl
  |12,_=>rfl
  |13,_=>rfl
  |14,_=>rfl
  |15,_=>rfl
  |16,_=>rfl
  |17,_=>rfl
  |18,_=>rfl
  |19,_=>rfl
  |20,_=>rfl
  |21,_=>rfl
  |22,_=>rfl
  |23,_=>rfl
  |24,_=>rfl
 ·refine⟨λ_=>.slice none 0 0,λ_=>[],⟨⟨λj v c=>?_,λj a=>R.free (25+j) (by simp at a ⊢;omega),R.lt⟩,λk _=>World.ownsRow_nil _ _ _ _,λk _=>?_,λk _=>by simp[Value.ownBlock],λi j _ _ _ g e=>by simp[Value.ownBlock]at e⟩,?_,λk=>Iff.rfl⟩
  ·refine R.cell (25+j) v ?_;rw[<-c]
   have a:j<8:=by
        have:=(List.getElem?_eq_some_iff.1 c).1;simpa using this
   match j,a with
   |0,_=>rfl
   |1,_=>rfl
   |2,_=>rfl
   |3,_=>rfl
   |4,_=>rfl
   |5,_=>rfl
   |6,_=>rfl
   |7,_=>rfl
  ·exact List.Pairwise.nil
  ·exact⟨λk _=>by simp[qjk,qmz],λx p=>by simp[qmz]at p⟩
 ·rintro (h|⟨i,q,h⟩)
  ·omega
  ·simp[Value.ownBlock]at h
 ·constructor
  ·rintro (h|h)
   ·exact .inl (.inl h)
   ·exact .inl (.inr (.inr (.inl h)))
  ·rintro ((h|h|h|h)|⟨m,r,h⟩)
   ·exact .inl h
   ·simp[Value.ownBlock]at h
   ·exact .inr h
   ·rcases h with h|⟨i,q,h⟩
    ·exact .inl h
    ·simp[Value.ownBlock]at h
   ·simp at r
theorem q3f (id:Int) (w:World) (a:0<=id) (b:id<4):
 Calls prog 28 #[int i64 id] w λe w'=>(e=.returned (.tuple #[.pointer (some ⟨w.heap.size+1,0,none⟩),.nilIface]))/\PS w' (w.heap.size+1) (λk=>k=w.heap.size+1\/k=w.heap.size) (qmz id)/\Below w.heap.size w w':=by
 have c:=qom (n:=id) (v:=true) (by simp[a,b]) w;have d:=@run_makeMap prog;go_enter func28,ntmps28
 go_wp2_with fail
 refine c.mono ?_;rintro e w2 ⟨rfl,rfl⟩
 go_wp2_with fail
 exact bodyPost_ret (v:=.tuple #[.pointer (some ⟨w2.heap.size+1,0,none⟩),.nilIface]) (by simp[results,results28,go_sem]) rfl ⟨rfl,q5l _ rfl _,boxed (boxed (Below.refl _ _) _) _⟩
def qbi (S:qaf) (k:Nat) (x0 x1 x2 x3:Int):qaf:={S with oth:=λj=>if j=k*4 then qb1 (S.oth j) x0 else if j=k*4+1 then qb1 (S.oth j) x1 else if j=k*4+2 then qb1 (S.oth j) x2 else if j=k*4+3 then qb1 (S.oth j) x3 else S.oth j}
end
section
inductive GrB
 |tx (t:TxP)
 |ask (site a0 a1 a2 a3:Int)
structure GrS where
 to:Nat
 body:GrB
structure WoS where
 n:Nat
 c:Nat
 S:Nat->qaf
 wall:Nat->Int
 ses:Nat->qbp
 at_:Nat->Nat
 net:List GrS
 lost:Int
def qb2 {α:Type} (f:Nat->α) (i:Nat) (x:α):Nat->α:=λj=>if j=i then x else f j
variable {α:Type}
theorem qal (f:Nat->α) (i:Nat) (x:α):qb2 f i x i=x:=by simp[qb2]
theorem qbq (f:Nat->α) {i j:Nat} (x:α) (h:j≠i):qb2 f i x j=f j:=by simp[qb2,h]
def ql4 (n c:Nat):WoS:=⟨n,c,λi=>qmz i,λ_=>0,λ_=>qg3,λ_=>0,[],0⟩
def setSite (W:WoS) (i:Nat) (S':qaf):WoS:={W with S:=qb2 W.S i S'}
def qb0 (W:WoS) (k:Nat) (s':qbp):WoS:={W with ses:=qb2 W.ses k s'}
def qcq (W:WoS) (g:GrS):WoS:=if 300<=W.net.length then {W with lost:=wrap64 (W.lost+1)}else {W with net:=W.net++[g]}
def qds (t:TxP):Nat->WoS->WoS
 |0,W=>W
 |k+1,W=>if (k:Int)=t.site then qds t k W else qcq (qds t k W) ⟨k,.tx t⟩
def qcb (other:Nat):List TxP->WoS->WoS
 |[],W=>W
 |t::l,W=>qcb other l (if t.site=(other:Int)then W else qcq W ⟨other,.tx t⟩)
def qdb (W:WoS) (k other:Nat) (v0 v1 v2 v3:Int):WoS:=
 qcb other (qf0 (W.S k) v0 v1 v2 v3) (setSite W k (qbi (W.S k) other v0 v1 v2 v3))
def quu (W:WoS) (k other:Nat):WoS:=qcq W ⟨other,.ask k (W.S k).a0 (W.S k).a1 (W.S k).a2 (W.S k).a3⟩
def qg2 (W:WoS) (g:GrS) (W':WoS):Prop:=
 match g.body with
 |.tx t=>∃S',qbu (W.S g.to) t S'/\W'=setSite W g.to S'
 |.ask site v0 v1 v2 v3=>if 0<=site/\site<(W.n:Int)then W'=qdb W g.to site.toNat v0 v1 v2 v3 else W'=W
def qb3 (W:WoS) (i:Nat):WoS:={W with net:=W.net.eraseIdx i}
def qcc (W:WoS) (i:Nat) (W':WoS):Prop:=∃g,W.net[i]?=some g/\qg2 (qb3 W i) g W'
inductive qc3:WoS->WoS->Prop
 |none {W:WoS}:W.net=[]->qc3 W W
 |step {W W1 W':WoS}:W.net≠[]->qcc W 0 W1->qc3 W1 W'->qc3 W W'
inductive qga (k:Nat):Nat->WoS->WoS->Prop
 |zero {W:WoS}:qga k 0 W W
 |self {W W':WoS} {m:Nat}:qga k m W W'->m=k->qga k (m+1) W W'
 |ask {W W1 W':WoS} {m:Nat}:qga k m W W1->m≠k->qc3 (quu W1 k m) W'->qga k (m+1) W W'
inductive qfc:Nat->WoS->WoS->Prop
 |zero {W:WoS}:qfc 0 W W
 |next {W W1 W':WoS} {m:Nat}:qfc m W W1->qga m W1.n W1 W'->qfc (m+1) W W'
def qk3 (W W':WoS):Prop:=∃W1,qc3 W W1/\qfc W1.n W1 W'
variable {x:GrS}
section
variable {W W':WoS} {g:GrS} {t:TxP} {k other:Nat}
structure qi9 (W W':WoS):Prop where
 n:W'.n=W.n
 c:W'.c=W.c
 S:W'.S=W.S
 wall:W'.wall=W.wall
 ses:W'.ses=W.ses
 at_:W'.at_=W.at_
theorem qi9.refl (W:WoS):qi9 W W:=⟨rfl,rfl,rfl,rfl,rfl,rfl⟩
theorem qi9.trans {A B C:WoS} (h:qi9 A B) (k:qi9 B C):qi9 A C:=⟨k.n.trans h.n,k.c.trans h.c,k.S.trans h.S,k.wall.trans h.wall,k.ses.trans h.ses,k.at_.trans h.at_⟩
theorem qbv (W:WoS) (g:GrS):qi9 W (qcq W g):=by
 unfold qcq
 split<;>exact⟨rfl,rfl,rfl,rfl,rfl,rfl⟩
theorem qx0 (h:W.net.length<300):(qcq W g).net=W.net++[g]:=by
 unfold qcq;rw[if_neg (by omega)]
theorem qke (h:x∈(qcq W g).net):x∈W.net\/x=g:=by
 unfold qcq at h;split at h
 ·exact .inl h
 ·simpa using h
theorem qcp (t:TxP):∀(k:Nat) (W:WoS),qi9 W (qds t k W)
 |0,W=>qi9.refl W
 |k+1,W=>by
  unfold qds;split
  ·exact qcp t k W
  ·exact(qcp t k W).trans (qbv _ _)
theorem qmw:∀(k:Nat),x∈(qds t k W).net->x∈W.net\/(x.to<k/\x.body=.tx t)
 |0,h=>.inl h
 |k+1,h=>by
  unfold qds at h;split at h
  ·rcases qmw k h with q|⟨q,r⟩
   ·exact .inl q
   ·exact .inr ⟨by omega,r⟩
  ·rcases qke h with q|q
   ·rcases qmw k q with q|⟨q,r⟩
    ·exact .inl q
    ·exact .inr ⟨by omega,r⟩
   ·rw[q];exact .inr ⟨by show k<k+1;omega,rfl⟩
theorem qee (other:Nat):∀(l:List TxP) (W:WoS),qi9 W (qcb other l W)
 |[],W=>qi9.refl W
 |t::l,W=>by
  unfold qcb;refine qi9.trans ?_ (qee other l _);split
  ·exact qi9.refl _
  ·exact qbv _ _
theorem qn3:∀(l:List TxP) (W:WoS),x∈(qcb other l W).net->x∈W.net\/(x.to=other/\∃t∈l,t.site≠(other:Int)/\x.body=.tx t)
 |[],W,h=>.inl h
 |t::l,W,h=>by
  unfold qcb at h;rcases qn3 l _ h with q|⟨q,y,a,r⟩
  ·split at q
   ·exact .inl q
   ·rename_i b;rcases qke q with q|q
    ·exact .inl q
    ·rw[q];exact .inr ⟨rfl,t,List.mem_cons_self,b,rfl⟩
  ·exact .inr ⟨q,y,List.mem_cons_of_mem _ a,r⟩
end
end
def qhw (b:Nat) (S:qaf):qm0:=⟨λw G=>PS w b G S,λ_ _ h=>h.lt,λ_ _ _ h=>h.kept⟩
section
open Go.Maps
def wrV (x:Wr):Value:=.agg #[.int .i64 x.key,.string x.data,.bool x.gone]
def q5u:Value:=.agg #[.int .i64 0,.string ⟨#[]⟩,.bool false]
theorem q3x (w:World):(zeroValue 34).run Tryz.prog w=.ok q5u w:=by kernel_rfl
theorem qug:Keyed Tryz.prog 3:=int_keyed Tryz.underlying3
theorem q25 {k:Int} (h:wfI k):keyOf Tryz.prog 3 (.int .i64 k)=some (.int .i64 k):=by
 unfold keyOf;rw[Tryz.underlying3];simp[mapKey,q5x h,Tryz.underlying3]
theorem qw3 (k:Int):WideAt.IsKeyLit (.int .i64 k):=trivial
structure qnt (D:DataW Value) (l:List Wr):Prop where
 size:Maps.size D=(qbs l).length
 has:∀k x,qe7 l k=some x->Maps.has D (.int .i64 k)=true/\∀z,D.atKey (.int .i64 k) z=.held (wrV x)
 no:∀k,qe7 l k=none->Maps.has D (.int .i64 k)=false/\∀z,D.atKey (.int .i64 k) z=z
def qjl (w:World) (bm:Nat) (l:List Wr):Prop:=(∀x∈l,0<=x.key/\x.key<8)/\∃D,w.ownsMap Tryz.prog 3 qe8 bm (qbs l).length D/\qnt D l
variable {w:World} {bm:Nat} {l:List Wr}
theorem qjl.lt (h:qjl w bm l):bm<w.heap.size:=by
 obtain⟨_,D,h,_⟩:=h;exact h.lt
variable {w':World}
theorem qjl.kept (h:qjl w bm l) (e:w'.heap[bm]?=w.heap[bm]?):qjl w' bm l:=by
 obtain⟨a,D,⟨b,c,hb,r⟩,d⟩:=h;exact⟨a,D,⟨b,c,by rw[e];exact hb,r⟩,d⟩
theorem qjl.made (w:World):qjl (w.alloc (.map #[] 0)) w.heap.size []:=
 ⟨by simp,_,World.ownsMap_made w _ _ _,⟨rfl,λk x h=>by simp[qe7]at h,λ_ _=>⟨rfl,λ_=>rfl⟩⟩⟩
theorem qou (l:List Wr) (x:Wr) (a:0<=x.key) (b:x.key<8):(qbs (l++[x])).length=if qe7 l x.key=none then (qbs l).length+1 else (qbs l).length:=by
 have:=qm6 l x 8 a
 show (qdi (l++[x]) 8).length=if qe7 l x.key=none then (qdi l 8).length+1 else (qdi l 8).length
 rw[this];by_cases h:qe7 l x.key=none
 ·rw[if_pos ⟨by omega,h⟩,if_pos h]
 ·rw[if_neg (λe=>h e.2),if_neg h];omega
variable {D:DataW Value} {x:Wr}
theorem qvv (f:Tidy D) (h:qnt D l) (g:0<=x.key) (i:x.key<8):qnt (D.put (.int .i64 x.key) (.held (wrV x))) (l++[x]):=by
 refine⟨?_,λk y a=>?_,λk c=>?_⟩
 ·rw[size_put f,qou l x g i,h.size];cases ho:qe7 l x.key with
  |none=>rw[(h.no _ ho).1];simp
  |some y=>rw[(h.has _ _ ho).1];simp
 ·rw[qlw]at a;by_cases e:x.key=k
  ·rw[if_pos e]at a;injection a with a;subst a;subst e;exact⟨has_put_same f.isMap (qw3 _) _,λz=>atKey_put_same f.isMap (qw3 _) _ z⟩
  ·rw[if_neg e]at a;have d:(Lit.int .i64 k)≠.int .i64 x.key:=λb=>e (by injection b with _ b;exact b.symm);exact⟨by rw[has_put_other d];exact(h.has k y a).1,λz=>by rw[atKey_put_other d];exact(h.has k y a).2 z⟩
 ·rw[qlw]at c;by_cases e:x.key=k
  ·rw[if_pos e]at c;cases c
  ·rw[if_neg e]at c;have d:(Lit.int .i64 k)≠.int .i64 x.key:=λb=>e (by injection b with _ b;exact b.symm);exact⟨by rw[has_put_other d];exact(h.no k c).1,λz=>by rw[atKey_put_other d];exact(h.no k c).2 z⟩
theorem qjl.put {n:Nat} (e:∀x∈l,0<=x.key/\x.key<8) (f:w.ownsMap Tryz.prog 3 qe8 bm (qbs l).length D) (g:qnt D l) (a:0<=x.key) (b:x.key<8)
 (i:w'.ownsMap Tryz.prog 3 qe8 bm n (D.put (.int .i64 x.key) (.held (wrV x)))):qjl w' bm (l++[x]):=by
 have c:=qvv (f.tidy qug) g a b;refine⟨λy j=>?_,_,?_,c⟩
 ·rcases List.mem_append.1 j with h|h
  ·exact e y h
  ·rw[List.mem_singleton.1 h];exact⟨a,b⟩
 ·obtain⟨k,m,o,p,q,d⟩:=i;refine⟨k,m,o,p,?_,d⟩;have:=c.size;rw[d]at this;simp[Maps.size,length_sorted]at this;omega
end
section
variable {l:List Wr}
theorem q3g {i:Nat} {x:Wr} {key:Int} (h:l[i]?=some x) (c:x.key=key) (d:∀j y,i<j->l[j]?=some y->y.key≠key):qe7 l key=some x:=by
 have f:i<l.length:=(List.getElem?_eq_some_iff.1 h).1
 have e:l=l.take i++(x::l.drop (i+1)):=by
  have a:=List.take_append_drop i l;rw[List.drop_eq_getElem_cons f]at a;have g:l[i]=x:=(List.getElem?_eq_some_iff.1 h).2;rw[g]at a;exact a.symm
 have k:(l.drop (i+1)).reverse.find? (λx=>decide (x.key=key))=none:=by
  rw[List.find?_eq_none];intro y m;obtain⟨j,b⟩:=List.getElem?_of_mem (List.mem_reverse.1 m);rw[List.getElem?_drop]at b;have:=d (i+1+j) y (by omega) b;simpa using this
 unfold qe7;rw[e,List.reverse_append,List.reverse_cons,List.append_assoc,List.find?_append,k];simp[c]
theorem qw2 {key:Int} (a:∀(j:Nat) (y:Wr),l[j]?=some y->y.key≠key):qe7 l key=none:=by
 unfold qe7;rw[List.find?_eq_none];intro y b;obtain⟨j,c⟩:=List.getElem?_of_mem (List.mem_reverse.1 b);have:=a j y c;simpa using this
def qdo (l:List Wr) (key:Int):Wr:=(qe7 l key).getD ⟨0,⟨#[]⟩,false⟩
def qbl (s:qbp) (wv:Value):List Value:=[.int .i64 s.p0,.int .i64 s.p1,.int .i64 s.p2,.int .i64 s.p3,.int .i64 s.s0,.int .i64 s.s1,.int .i64 s.s2,.int .i64 s.s3,.bool s.opn,wv]
structure qla (w:World) (b:Nat) (wv:Value) (s:qbp):Prop where
 box:qag w b (qbl s wv)
 row:w.ownsRow 0 34 3 wv s.ws.length (qf4 s.ws)
 nb:wv.ownBlock≠some b
theorem qla.later {w w':World} {b:Nat} {wv:Value} {s:qbp} (h:qla w b wv s) (hb:Below w.heap.size w w'):qla w' b wv s:=⟨h.box.later hb,qad h.row (λk e=>hb.block k (h.row.lt k e).2),h.nb⟩
end
section
open Go.Maps
variable {b:Nat} {G:Nat->Prop} {S:qaf}
theorem PS.mem {w:World} (h:PS w b G S):∃lv bm F log waits,qc9 w b lv bm F S log waits/\log.length=S.log.length/\waits.length=S.waits.length:=by
 obtain⟨lv,bm,F,log,waits,h,a,c,_⟩:=h;exact⟨lv,bm,F,log,waits,h,by rw[<-a];simp,by rw[<-c];simp⟩
theorem qcr.many (h:qcr S):S.l.length<=1000:=by
 have:=h.len;have:=h.log;omega
theorem qfa (w:World) (h:PS w b G S):
 Calls Tryz.prog 55 #[.pointer (some ⟨b,0,none⟩)] w λe w'=>e=.returned (.agg #[.int .i64 S.a0,.int .i64 S.a1,.int .i64 S.a2,.int .i64 S.a3])/\Below w.heap.size w w':=by
 obtain⟨lv,bm,F,log,waits,a,_,_⟩:=h.mem;have c:=a.box.cell 1 _ rfl;have d:=a.box.cell 2 _ rfl;have g:=a.box.cell 3 _ rfl;have i:=a.box.cell 4 _ rfl;have j:=a.box.lt;clear a h;go_enter Tryz.func55,Tryz.ntmps55
 go_wp2_with fail
 exact bodyPost_ret (v:=.agg #[.int .i64 S.a0,.int .i64 S.a1,.int .i64 S.a2,.int .i64 S.a3]) (by simp[results,Tryz.results55,go_sem]) rfl ⟨rfl,boxed (Below.refl _ _) _⟩
end
section
open Go.Value Go.IntKind
def qbw (s:qbp) (mv:Value):List Value:=[int i64 s.p0,int i64 s.p1,int i64 s.p2,int i64 s.p3,.bool s.opn,int i64 s.s0,int i64 s.s1,int i64 s.s2,int i64 s.s3,mv]
def q5z (w:World) (b:Nat) (s:qbp) (mv:Value) (G:Nat->Prop):Prop:=
 (s.opn=false/\mv=.map none/\s.ws=[]/\∀k,G k↔k=b)\/(s.opn=true/\∃bm,mv=.map (some bm)/\bm≠b/\qjl w bm s.ws/\∀k,G k↔(k=b\/k=bm))
def PSe (w:World) (b:Nat) (G:Nat->Prop) (s:qbp):Prop:=∃mv,qag w b (qbw s mv)/\q5z w b s mv G
variable {w:World} {b:Nat} {G:Nat->Prop} {s:qbp}
theorem PSe.lt (h:PSe w b G s):∀k,G k->k<w.heap.size:=by
 obtain⟨mv,d,⟨_,_,_,a⟩|⟨_,bm,_,_,f,a⟩⟩:=h
 ·intro k c;rw[(a k).1 c];exact d.lt
 ·intro k c;rcases(a k).1 c with e|e
  ·rw[e];exact d.lt
  ·rw[e];exact f.lt
theorem PSe.own (h:PSe w b G s):G b:=by
 obtain⟨mv,c,⟨_,_,_,a⟩|⟨_,bm,_,_,d,a⟩⟩:=h
 ·exact(a b).2 rfl
 ·exact(a b).2 (.inl rfl)
variable {w':World}
theorem PSe.kept (h:PSe w b G s) (e:∀k,G k->w'.heap[k]?=w.heap[k]?) (g:w.heap.size<=w'.heap.size):PSe w' b G s:=by
 have i:=h.own;obtain⟨mv,j,⟨a,f,c,d⟩|⟨a,bm,f,c,l,d⟩⟩:=h
 ·exact⟨mv,j.kept (e b i) g,.inl ⟨a,f,c,d⟩⟩
 ·exact⟨mv,j.kept (e b i) g,.inr ⟨a,bm,f,c,l.kept (e bm ((d bm).2 (.inr rfl))),d⟩⟩
theorem PSe.later (h:PSe w b G s) (hb:Below w.heap.size w w'):PSe w' b G s:=h.kept (λk a=>hb.block k (h.lt k a)) hb.size
def qpn (b:Nat) (s:qbp):qm0:=⟨λw G=>PSe w b G s,λ_ _ h=>h.lt,λ_ _ _ h=>h.kept⟩
def qh4 (w:World) (b:Nat) (G:Nat->Prop) (s':qbp) (w':World):Prop:=∃G',PSe w' b G' s'/\(∀k,G' k->G k\/w.heap.size<=k)/\qae G w w'
theorem qh4.same (h:PSe w b G s) (hb:Below w.heap.size w w'):qh4 w b G s w':=⟨G,h.later hb,λ_ a=>.inl a,qae.ofBelow hb⟩
variable {w2:World} {G1:Nat->Prop}
theorem qh4.trans {a:World} {c:qbp} (d:∀k,G1 k->G k\/w.heap.size<=k) (e:qae G w a) (h:qh4 a b G1 c w2):qh4 w b G c w2:=by
 obtain⟨g,i,j,l⟩:=h;refine⟨g,i,λk m=>?_,e.more l d⟩;rcases j k m with f|f
 ·exact d k f
 ·exact .inr (by have:=e.size;omega)
theorem q3n (T:TypeId):PSe (w.alloc (.cells (qbw qg3 (.map none)).toArray T)) w.heap.size (λk=>k=w.heap.size) qg3:=
 ⟨.map none,qag.new (w:=w) (T:=T) _ rfl,.inl ⟨rfl,rfl,rfl,λ_=>Iff.rfl⟩⟩
variable {mv:Value}
theorem q39 (a:G b) (hb:Below w.heap.size w w2) (B:qag w2 b (qbw s mv)) (x0 x1 x2 x3:Int):
 qh4 w b G ⟨x0,x1,x2,x3,false,0,0,0,0,[]⟩ ((((((((((w2.setCell ⟨b,0,none⟩ (int i64 x0)).setCell ⟨b,1,none⟩ (int i64 x1)).setCell ⟨b,2,none⟩ (int i64 x2)).setCell ⟨b,3,none⟩ (int i64 x3)).setCell ⟨b,4,none⟩ (.bool false)).setCell ⟨b,5,none⟩ (int i64 0)).setCell ⟨b,6,none⟩ (int i64 0)).setCell ⟨b,7,none⟩ (int i64 0)).setCell ⟨b,8,none⟩ (int i64 0)).setCell ⟨b,9,none⟩ (.map none)):=by
 have c:=B.set 0 (int i64 x0) (by simp[qbw]);have d:=c.set 1 (int i64 x1) (by simp[qbw]);have e:=d.set 2 (int i64 x2) (by simp[qbw]);have f:=e.set 3 (int i64 x3) (by simp[qbw]);have g:=f.set 4 (.bool false) (by simp[qbw]);have h:=g.set 5 (int i64 0) (by simp[qbw]);have i:=h.set 6 (int i64 0) (by simp[qbw]);have j:=i.set 7 (int i64 0) (by simp[qbw]);have l:=j.set 8 (int i64 0) (by simp[qbw]);have m:=l.set 9 (.map none) (by simp[qbw]);refine⟨λk=>k=b,⟨.map none,m,.inl ⟨rfl,rfl,rfl,λ_=>Iff.rfl⟩⟩,λk n=>.inl (by rw[n];exact a),?_⟩;have T:=qae.ofBelow (F:=G) hb;refine T.trans ?_;exact(((((((((qae.setCell _ _ _ a).trans (qae.setCell _ _ _ a)).trans (qae.setCell _ _ _ a)).trans (qae.setCell _ _ _ a)).trans (qae.setCell _ _ _ a)).trans (qae.setCell _ _ _ a)).trans (qae.setCell _ _ _ a)).trans (qae.setCell _ _ _ a)).trans (qae.setCell _ _ _ a)).trans (qae.setCell _ _ _ a)
theorem q0t {bm:Nat} (a:G b) (hb:Below w.heap.size w w2) (B:qag w2 b (qbw s mv)) (d:qjl w2 bm []) (n:w.heap.size<=bm) (o:b<w.heap.size) (a0 a1 a2 a3:Int):
 qh4 w b G {s with opn:=true,s0:=a0,s1:=a1,s2:=a2,s3:=a3,ws:=[]} ((((((w2.setCell ⟨b,4,none⟩ (.bool true)).setCell ⟨b,5,none⟩ (int i64 a0)).setCell ⟨b,6,none⟩ (int i64 a1)).setCell ⟨b,7,none⟩ (int i64 a2)).setCell ⟨b,8,none⟩ (int i64 a3)).setCell ⟨b,9,none⟩ (.map (some bm))):=by
 have e:=B.set 4 (.bool true) (by simp[qbw]);have f:=e.set 5 (int i64 a0) (by simp[qbw]);have g:=f.set 6 (int i64 a1) (by simp[qbw]);have i:=g.set 7 (int i64 a2) (by simp[qbw]);have j:=i.set 8 (int i64 a3) (by simp[qbw]);have l:=j.set 9 (.map (some bm)) (by simp[qbw])
 have c:bm≠b:=by omega
 refine⟨λk=>k=b\/k=bm,⟨.map (some bm),l,.inr ⟨rfl,bm,rfl,c,d.kept ?_,λ_=>Iff.rfl⟩⟩,λk m=>?_,?_⟩
 ·rw[Below.heap_setCell _ _ _ _ c,Below.heap_setCell _ _ _ _ c,Below.heap_setCell _ _ _ _ c,Below.heap_setCell _ _ _ _ c,Below.heap_setCell _ _ _ _ c,Below.heap_setCell _ _ _ _ c]
 ·rcases m with h|h
  ·exact .inl (by rw[h];exact a)
  ·exact .inr (by omega)
 ·have T:=qae.ofBelow (F:=G) hb;refine T.trans ?_;exact(((((qae.setCell _ _ _ a).trans (qae.setCell _ _ _ a)).trans (qae.setCell _ _ _ a)).trans (qae.setCell _ _ _ a)).trans (qae.setCell _ _ _ a)).trans (qae.setCell _ _ _ a)
theorem q2m (h:PSe w2 b G1 s) (d:∀k,G1 k->G k\/w.heap.size<=k) (e:G b) (f:qae G w w2) (n:Nat) (g:n<4) (x:Int):
 qh4 w b G {s with p0:=if n=0 then x else s.p0,p1:=if n=1 then x else s.p1,p2:=if n=2 then x else s.p2,p3:=if n=3 then x else s.p3} (w2.setCell ⟨b,n,none⟩ (int i64 x)):=by
 obtain⟨mv,B,i⟩:=h;have R:=B.set n (int i64 x) (by simp[qbw];omega);refine⟨G1,⟨mv,?_,?_⟩,d,f.trans (qae.setCell _ _ _ e)⟩
 ·match n,g with
  |0,_=>exact R
  |1,_=>exact R
  |2,_=>exact R
  |3,_=>exact R
 ·rcases i with j|⟨a,bm,l,c,m,o⟩
  ·exact .inl j
  ·exact .inr ⟨a,bm,l,c,m.kept (Below.heap_setCell _ _ _ _ c),o⟩
end
section
def qy4 (b:Nat) (x:Int):List Value:=[.pointer (some ⟨b,0,none⟩),.int .i64 x]
def qci (bp:Nat->Nat) (x:Nat->Int) (n:Nat):List Value:=(List.range n).flatMap (λi=>qy4 (bp i) (x i))
structure GrM where
 g:GrS
 blk:Nat
 cap:Nat
 S:ByteArray
def qsz (m:GrM):List Value:=[.int .i64 m.g.to,.slice (some ⟨m.blk,0,none⟩) m.S.size m.cap]
def qfk (l:List GrM):List Value:=l.flatMap qsz
def txv (t:TxP):TxV:=⟨t.site,t.seq,t.wall,t.count,t.d0,t.d1,t.d2,t.d3,t.ws⟩
def q47 (L:List UInt8):GrB->Prop
 |.tx t=>qte L (txv t)
 |.ask site a0 a1 a2 a3=>qdh L ⟨site,a0,a1,a2,a3⟩
structure GrM.Ok (w:World) (m:GrM):Prop where
 own:Own w 0 m.blk m.cap m.S
 size:m.S.size<=1000000
 is:q47 (toL m.S) m.g.body
variable {w:World} {m:GrM}
theorem GrM.Ok.kept {w':World} (h:m.Ok w) (hb:w'.heap[m.blk]?=w.heap[m.blk]?) (a:w.heap.size<=w'.heap.size):m.Ok w':=⟨h.own.kept hb a,h.size,h.is⟩
theorem qjo {α:Type} (f:α->List Value) (a:∀x,(f x).length=2):∀(l:List α) (i r:Nat) (x:α) (u:Value),l[i]?=some x->(f x)[r]?=some u->(l.flatMap f)[i*2+r]?=some u
 |[],i,r,x,u,h,_=>by simp at h
 |y::l,0,r,x,u,h,hu=>by
  have e:y=x:=by simpa using h
  subst e
  have c:r<2:=by have:=(List.getElem?_eq_some_iff.1 hu).1;rw[a]at this;exact this
  rw[List.flatMap_cons,Nat.zero_mul,Nat.zero_add,List.getElem?_append_left (by rw[a];exact c)];exact hu
 |y::l,i+1,r,x,u,h,hu=>by
  have d:l[i]?=some x:=by simpa using h
  rw[List.flatMap_cons,List.getElem?_append_right (by rw[a];omega),a,show (i+1)*2+r-2=i*2+r by omega];exact qjo f a l i r x u d hu
variable {n i:Nat}
theorem qeu {bp:Nat->Nat} {x:Nat->Int} (a:i<n):(qci bp x n)[i*2]?=some (.pointer (some ⟨bp i,0,none⟩))/\(qci bp x n)[i*2+1]?=some (.int .i64 (x i)):=
 ⟨qjo _ (λ_=>rfl) _ i 0 i _ (List.getElem?_range a) rfl,qjo _ (λ_=>rfl) _ i 1 i _ (List.getElem?_range a) rfl⟩
theorem qtv {l:List GrM} (a:l[i]?=some m):(qfk l)[i*2]?=some (.int .i64 m.g.to)/\(qfk l)[i*2+1]?=some (.slice (some ⟨m.blk,0,none⟩) m.S.size m.cap):=
 ⟨qjo _ (λ_=>rfl) _ i 0 m _ a rfl,qjo _ (λ_=>rfl) _ i 1 m _ a rfl⟩
theorem qj2 (bp:Nat->Nat) (x:Nat->Int):∀n,(qci bp x n).length=n*2
 |0=>rfl
 |n+1=>by
  unfold qci;rw[List.range_succ,List.flatMap_append,List.length_append];have:=qj2 bp x n;unfold qci at this;rw[this];simp[qy4];omega
theorem qgy (l:List GrM):(qfk l).length=l.length*2:=by
 induction l with
 |nil=>rfl
 |cons x l ih=>
  show (qsz x++qfk l).length=_;rw[List.length_append,ih];simp[qsz];omega
structure q6a (w:World) (a:Option Addr) (cap n:Nat) (L:List Value):Prop where
 len:n<=cap
 cap:cap<=9223372036854775807
 held:n=0\/∃g,a=some ⟨g,0,none⟩/\g<w.heap.size/\∀j u,L[j]?=some u->w.cell? ⟨g,j,none⟩=some u
variable {k:Nat}
theorem qan {B:Nat} {T:TypeId} {v:Value} {L:List Value} (h:w.ownsRow B T k v n L):∃a cap,v=.slice a n cap/\q6a w a cap n L:=by
 have c:=h;rcases h.2 with ⟨rfl,d⟩|⟨g,cap,cur,rfl,hb,p,f,l,q,r⟩
 ·exact⟨none,0,by rw[d],⟨by omega,by omega,.inl d⟩⟩
 ·refine⟨_,cap,rfl,⟨f,by simp only[maxLen]at l;omega,.inr ⟨g,rfl,(c.lt g rfl).2,λj u o=>?_⟩⟩⟩;have e:=c.cells (g:=g) rfl j u o;rw[qb8]at e;exact e
structure WoM where
 pv:Value
 cv:Value
 nv:Value
 bp:Nat->Nat
 bs:Nat->Nat
 l:List GrM
def qg8 (b:Nat) (M:WoM) (k:Nat):Prop:=k=b\/M.pv.ownBlock=some k\/M.cv.ownBlock=some k\/M.nv.ownBlock=some k\/∃m∈M.l,m.blk=k
def qd3 (M:WoM) (W:WoS):Nat->qm0:=λi=>if i<W.n then qhw (M.bp i) (W.S i)else qpn (M.bs (i-W.n)) (W.ses (i-W.n))
structure PWo (w:World) (b:Nat) (M:WoM) (W:WoS) (Gs:Nat->Nat->Prop):Prop where
 box:qag w b [M.pv,M.cv,M.nv,.int .i64 W.lost]
 pr:w.ownsRow 0 99 2 M.pv W.n (qci M.bp W.wall W.n)
 cr:w.ownsRow 0 103 2 M.cv W.c (qci M.bs (λk=>(W.at_ k:Int)) W.c)
 nr:w.ownsRow 0 168 2 M.nv M.l.length (qfk M.l)
 nl:M.l.map (·.g)=W.net
 gr:∀m∈M.l,m.Ok w
 fam:qbx w (W.n+W.c) (qd3 M W) Gs (qg8 b M) (W.n+W.c) NoY
 sb:M.pv.ownBlock≠some b/\M.cv.ownBlock≠some b/\M.nv.ownBlock≠some b
 sr:∀k,(M.pv.ownBlock=some k->M.cv.ownBlock≠some k/\M.nv.ownBlock≠some k)/\(M.cv.ownBlock=some k->M.nv.ownBlock≠some k)
 sg:∀m∈M.l,m.blk≠b/\M.pv.ownBlock≠some m.blk/\M.cv.ownBlock≠some m.blk/\M.nv.ownBlock≠some m.blk
section
variable {w w':World} {b:Nat} {M:WoM} {W:WoS} {Gs:Nat->Nat->Prop}
theorem PWo.site (h:PWo w b M W Gs) (a:i<W.n):PS w (M.bp i) (Gs i) (W.S i):=by
 have:=h.fam.is i (by omega);unfold qd3 at this;rw[if_pos a]at this;exact this
theorem PWo.sess (h:PWo w b M W Gs) (a:k<W.c):PSe w (M.bs k) (Gs (W.n+k)) (W.ses k):=by
 have:=h.fam.is (W.n+k) (by omega);unfold qd3 at this;rw[if_neg (by omega),show W.n+k-W.n=k by omega]at this;exact this
theorem PWo.keep (h:PWo w b M W Gs) {a:WoS} {f:Nat->Nat->Prop} (d:qby (qg8 b M) w w') (o:qbx w' (W.n+W.c) (qd3 M a) f (qg8 b M) (W.n+W.c) NoY) (g:a.n=W.n) (j:a.c=W.c) (p:a.wall=W.wall) (q:a.at_=W.at_) (r:a.net=W.net) (s:a.lost=W.lost):PWo w' b M a f:=by
 refine⟨?_,?_,?_,qad h.nr (λk e=>d.block k (.inr (.inr (.inr (.inl e))))),by rw[r];exact h.nl,λm l=>(h.gr m l).kept (d.block _ (.inr (.inr (.inr (.inr ⟨m,l,rfl⟩))))) d.size,by rw[g,j];exact o,h.sb,h.sr,h.sg⟩
 ·rw[s];exact h.box.keeps d (.inl rfl)
 ·rw[g,p];exact qad h.pr (λk e=>d.block k (.inr (.inl e)))
 ·rw[j,q];exact qad h.cr (λk e=>d.block k (.inr (.inr (.inl e))))
end
def qj4 (b:Nat) (M:WoM) (N:Nat) (Gs:Nat->Nat->Prop) (k:Nat):Prop:=qg8 b M k\/∃i,i<N/\Gs i k
def PW (w:World) (b:Nat) (G:Nat->Prop) (W:WoS):Prop:=∃M Gs,PWo w b M W Gs/\∀k,G k↔qj4 b M (W.n+W.c) Gs k
section
variable {w w':World} {b:Nat} {G:Nat->Prop} {M:WoM} {W:WoS} {Gs:Nat->Nat->Prop}
theorem PWo.ltF (h:PWo w b M W Gs):∀k,qg8 b M k->k<w.heap.size:=λk a=>(h.fam.free k a).1
theorem PWo.ltG (h:PWo w b M W Gs) (a:i<W.n+W.c) (d:Gs i k):k<w.heap.size:=(qd3 M W i).lt _ _ (h.fam.is i a) k d
theorem PW.lt (h:PW w b G W):∀k,G k->k<w.heap.size:=by
 obtain⟨M,Gs,h,a⟩:=h;intro k c;rcases(a k).1 c with q|⟨i,d,q⟩
 ·exact h.ltF k q
 ·exact h.ltG d q
theorem PW.kept (h:PW w b G W) (f:∀k,G k->w'.heap[k]?=w.heap[k]?) (c:w.heap.size<=w'.heap.size):PW w' b G W:=by
 obtain⟨M,Gs,h,d⟩:=h;have a:∀k,qg8 b M k->w'.heap[k]?=w.heap[k]?:=λk q=>f k ((d k).2 (.inl q));refine⟨M,Gs,⟨h.box.kept (a b (.inl rfl)) c,qad h.pr (λk e=>a k (.inr (.inl e))),qad h.cr (λk e=>a k (.inr (.inr (.inl e)))),qad h.nr (λk e=>a k (.inr (.inr (.inr (.inl e))))),h.nl,λm g=>(h.gr m g).kept (a _ (.inr (.inr (.inr (.inr ⟨m,g,rfl⟩))))) c,h.fam.to (λj k l e=>f k ((d k).2 (.inr ⟨j,l,e⟩))) c (λk e=>⟨.inl e,Nat.lt_of_lt_of_le (h.ltF k e) c⟩),h.sb,h.sr,h.sg⟩,d⟩
theorem PW.later (h:PW w b G W) (hb:Below w.heap.size w w'):PW w' b G W:=h.kept (λk a=>hb.block k (h.lt k a)) hb.size
end
def woP (b:Nat) (W:WoS):qm0:=⟨λw G=>PW w b G W,λ_ _ h=>h.lt,λ_ _ _ h=>h.kept⟩
def qgq (w:World) (b:Nat) (G:Nat->Prop) (W':WoS) (w':World):Prop:=qvh (woP b W') w G w'
section
variable {w w':World} {b:Nat} {G:Nat->Prop} {M:WoM} {W:WoS} {Gs:Nat->Nat->Prop}
theorem qgq.same (h:PW w b G W) (hb:Below w.heap.size w w'):qgq w b G W w':=⟨G,h.later hb,λ_ a=>.inl a,qae.ofBelow hb⟩
theorem PWo.stepS (h:PWo w b M W Gs) (d:∀k,G k↔qj4 b M (W.n+W.c) Gs k) (t:i<W.n) {S':qaf} (u:PPo w (M.bp i) (Gs i) S' w'):qgq w b G (setSite W i S') w':=by
 obtain⟨o,f,g,v,a⟩:=h.fam.stepG (ps':=qd3 M (setSite W i S')) (i:=i) (by omega) (p:=qhw (M.bp i) S') u (by show (if i<W.n then _ else _)=_;rw[if_pos t];show qhw (M.bp i) (qb2 W.S i S' i)=_;rw[qal]) (λj s x=>by
  show (if j<W.n then qhw (M.bp j) (qb2 W.S i S' j)else _)=(if j<W.n then _ else _);rw[qbq _ _ x]
  rfl)
 refine⟨qj4 b M (W.n+W.c) o,⟨M,o,h.keep v f rfl rfl rfl rfl rfl rfl,λ_=>Iff.rfl⟩,λk l=>?_,⟨a.os,a.tape,a.output,a.size,λk l y=>a.block k l (λe=>y ((d k).2 (.inr ⟨i,by omega,e⟩)))⟩⟩;rcases l with q|⟨j,s,q⟩
 ·exact .inl ((d k).2 (.inl q))
 ·rcases g j k q with r|r
  ·exact .inl ((d k).2 (.inr ⟨j,s,r⟩))
  ·exact .inr r
theorem PWo.stepC (h:PWo w b M W Gs) (l:∀k,G k↔qj4 b M (W.n+W.c) Gs k) (y:i<W.c) {a:qbp} (u:qh4 w (M.bs i) (Gs (W.n+i)) a w'):qgq w b G (qb0 W i a) w':=by
 obtain⟨s,f,g,v,d⟩:=h.fam.stepG (ps':=qd3 M (qb0 W i a)) (i:=W.n+i) (by omega) (p:=qpn (M.bs i) a) u (by show (if W.n+i<W.n then _ else _)=_;rw[if_neg (by omega)];show qpn (M.bs (W.n+i-W.n)) (qb2 W.ses i a (W.n+i-W.n))=_;rw[show W.n+i-W.n=i by omega,qal]) (λj t z=>by
  show (if j<W.n then _ else qpn (M.bs (j-W.n)) (qb2 W.ses i a (j-W.n)))=(if j<W.n then _ else _);by_cases q:j<W.n
  ·rw[if_pos q,if_pos q];rfl
  ·rw[if_neg q,if_neg q,qbq _ _ (by omega)])
 refine⟨qj4 b M (W.n+W.c) s,⟨M,s,h.keep v f rfl rfl rfl rfl rfl rfl,λ_=>Iff.rfl⟩,λk o=>?_,⟨d.os,d.tape,d.output,d.size,λk o x=>d.block k o (λe=>x ((l k).2 (.inr ⟨W.n+i,by omega,e⟩)))⟩⟩;rcases o with q|⟨j,t,q⟩
 ·exact .inl ((l k).2 (.inl q))
 ·rcases g j k q with r|r
  ·exact .inl ((l k).2 (.inr ⟨j,t,r⟩))
  ·exact .inr r
end
end
section
open Tryz Go.Value Go.IntKind
theorem qw4 (w:World):Calls prog 29 #[] w λe w'=>e=.returned (.pointer (some ⟨w.heap.size,0,none⟩))/\PSe w' w.heap.size (λk=>k=w.heap.size) qg3/\Below w.heap.size w w':=by
 go_enter func29,ntmps29
 go_wp2_with fail
 go_ret;exact⟨rfl,q3n _,boxed (Below.refl _ w) _⟩
variable {b:Nat} {G:Nat->Prop} {s:qbp}
theorem ql0 (w:World) (h:PSe w b G s):
 Calls prog 63 #[.pointer (some ⟨b,0,none⟩)] w λe w'=>e=.returned (.bool s.opn)/\Below w.heap.size w w':=by
 obtain⟨a,B,_⟩:=h;have c:=B.cell 4 _ rfl;clear B;go_enter func63,ntmps63
 go_wp2_with fail
 go_ret;exact⟨rfl,Below.refl _ _⟩
theorem ql1 {f:Func} {tmps:Array Value} {w:World} {x0 x1 x2 x3:Int} (a:f.results=#[.cell 2 47]) (h:qag w b [int i64 x0,int i64 x1,int i64 x2,int i64 x3]) (c:tmps[2]?=some (.pointer (some ⟨b,0,none⟩))):
 (results f tmps).run prog w=.ok (.agg #[int i64 x0,int i64 x1,int i64 x2,int i64 x3]) w:=by
 have d:=h.cell 0 _ rfl;have e:=h.cell 1 _ rfl;have g:=h.cell 2 _ rfl;have i:=h.cell 3 _ rfl;simp[results,a,go_sem,c,d,e,g,i]
theorem qyg (w:World) (h:PSe w b G s):
 Calls prog 61 #[.pointer (some ⟨b,0,none⟩)] w λe w'=>e=.returned (.agg #[int i64 s.p0,int i64 s.p1,int i64 s.p2,int i64 s.p3])/\Below w.heap.size w w':=by
 obtain⟨a,B,_⟩:=h;have c:=B.cell 0 _ rfl;have d:=B.cell 1 _ rfl;have g:=B.cell 2 _ rfl;have i:=B.cell 3 _ rfl;have j:=B.lt;clear B;go_enter func61,ntmps61
 go_wp2_with fail
 exact bodyPost_ret (ql1 results61 (qag.new (w:=w) (T:=47) [int i64 s.p0,int i64 s.p1,int i64 s.p2,int i64 s.p3] rfl) rfl) rfl ⟨rfl,boxed (Below.refl _ w) _⟩
theorem qrr (w:World) (h:PSe w b G s):
 Calls prog 62 #[.pointer (some ⟨b,0,none⟩)] w λe w'=>e=.returned (.agg #[int i64 s.s0,int i64 s.s1,int i64 s.s2,int i64 s.s3])/\Below w.heap.size w w':=by
 obtain⟨a,B,_⟩:=h;have c:=B.cell 5 _ rfl;have d:=B.cell 6 _ rfl;have g:=B.cell 7 _ rfl;have i:=B.cell 8 _ rfl;have j:=B.lt;clear B;go_enter func62,ntmps62
 go_wp2_with fail
 exact bodyPost_ret (ql1 results62 (qag.new (w:=w) (T:=47) [int i64 s.s0,int i64 s.s1,int i64 s.s2,int i64 s.s3] rfl) rfl) rfl ⟨rfl,boxed (Below.refl _ w) _⟩
theorem qos (w:World) (h:PSe w b G s):
 Calls prog 108 #[.pointer (some ⟨b,0,none⟩)] w λe w'=>e=.returned (.tuple #[])/\qh4 w b G (qil s) w':=by
 have i:=h.own;obtain⟨l,B,_⟩:=h;have j:Hid _:=B;have d:Below w.heap.size w w.drew:=(Below.refl _ w).drew;have c:=B.later d;clear B;go_enter func108,ntmps108
 go_wp2_with fail
 have m:=c.cell 0 _ rfl;have n:=c.cell 1 _ rfl;have o:=c.cell 2 _ rfl;have p:=c.cell 3 _ rfl;have q:=c.cell 5 _ rfl;have r:=c.cell 6 _ rfl;have t:=c.cell 7 _ rfl;have u:=c.cell 8 _ rfl
 go_region_law (refine qas rfl 133 #[.agg #[int i64 s.p0,int i64 s.p1,int i64 s.p2,int i64 s.p3],.agg #[int i64 s.s0,int i64 s.s1,int i64 s.s2,int i64 s.s3]] (by go_simp) (qz7 s.p0 s.p1 s.p2 s.p3 s.s0 s.s1 s.s2 s.s3 _) ?_
                rintro e wa ⟨rfl,k⟩;refine⟨_,rfl,?_⟩;have g:=qac d k;have a:=j.out.later g;have v:=a.cell 0 _ rfl;have x:=a.cell 1 _ rfl;have y:=a.cell 2 _ rfl;have z:=a.cell 3 _ rfl;have C:=a.cell 4 _ rfl;have D:=a.cell 5 _ rfl;have E:=a.cell 6 _ rfl;have F:=a.cell 7 _ rfl;have H:=a.cell 8 _ rfl;have I:=a.cell 9 _ rfl;have f0:=a.free 0 (by simp[qbw]);have f1:=a.free 1 (by simp[qbw]);have f2:=a.free 2 (by simp[qbw]);have f3:=a.free 3 (by simp[qbw]);have J:=a.free 4 (by simp[qbw]);have K:=a.free 5 (by simp[qbw]);have L:=a.free 6 (by simp[qbw]);have M:=a.free 7 (by simp[qbw]);have N:=a.free 8 (by simp[qbw])
                have O:=a.free 9 (by simp[qbw]))
 all_goals
  go_wp2_with fail
  go_end0;exact⟨rfl,q39 i g a _ _ _ _⟩
theorem qvi (w:World) (h:PSe w b G s):
 Calls prog 81 #[.pointer (some ⟨b,0,none⟩)] w λe w'=>e=.returned (qa9 (qps s))/\qh4 w b G (qnz s) w':=by
 have c:Hid _:=h;obtain⟨j,B,_⟩:=h;have d:=B.cell 4 _ rfl;clear B;cases ho:s.opn
 ·rw[ho]at d;have a:Hid (qps s=6/\qnz s=s):=⟨by unfold qps;rw[ho];rfl,by unfold qnz;rw[ho];rfl⟩;clear ho;go_enter func81,ntmps81
  go_wp2_with fail
  go_ret;refine⟨by rw[a.out.1];rfl,?_⟩;rw[a.out.2];exact qh4.same c.out (Below.refl _ _)
 ·rw[ho]at d;have a:Hid (qps s=0/\qnz s=qil s):=⟨by unfold qps;rw[ho];rfl,by unfold qnz;rw[ho];rfl⟩;clear ho;have g:=qos w c.out;go_enter func81,ntmps81
  go_wp2_with fail
  refine g.mono ?_;rintro e k ⟨rfl,i⟩
  go_wp2_with fail
  go_ret;refine⟨by rw[a.out.1];rfl,?_⟩;rw[a.out.2];exact i
theorem quq {k:Nat} {m:Nat->Prop} {S:qaf} (w:World) (h:PSe w b G s) (j:PS w k m S):
 Calls prog 71 #[.pointer (some ⟨b,0,none⟩),.pointer (some ⟨k,0,none⟩)] w λe w'=>e=.returned (qa9 (qn5 S s))/\qh4 w b G (qne S s) w':=by
 have t:=h.own;have d:Hid (PSe w b G s/\PS w k m S):=⟨h,j⟩;have E:=Later.one;have F:=@run_makeMap prog;obtain⟨H,B,_⟩:=h;have u:Hid _:=B;have v:Hid _:=B.lt;have l:=B.cell 4 _ rfl;cases ho:s.opn
 ·rw[ho]at l;have x:=Later.cell (B.cell 0 _ rfl);have y:=Later.cell (B.cell 1 _ rfl);have z:=Later.cell (B.cell 2 _ rfl);have C:=Later.cell (B.cell 3 _ rfl);have n:Hid _:=ho;cases hc:qe3 S.a0 S.a1 S.a2 S.a3 s.p0 s.p1 s.p2 s.p3
  ·have g:Hid _:=hc
   have c:Hid (qn5 S s=10):=by show _=_;unfold qn5;rw[n.out,g.out];rfl
   clear j B ho hc;go_enter func71,ntmps71
   go_wp2_with fail
   refine qaa (by kernel_rfl) (by kernel_rfl) ?_
   repeat (go_big_quiet_step (first|rfl|(go_at_call 55;with_reducible exact qab (qfa _ (d.out.2.later (Later.below _))))|(go_at_call 21;with_reducible exact qab (qho g.out _))))
   refine wpQuiet_nil ?_;rintro w2 ⟨⟨_,i⟩,rfl⟩
   go_wp2_with fail
   go_ret;refine⟨by rw[c.out];rfl,?_⟩;rw[show qne S s=s by unfold qne;rw[if_neg (by rw[c.out];decide)]];exact qh4.same d.out.1 i
  ·have g:Hid _:=hc
   have c:Hid (qn5 S s=0):=by show _=_;unfold qn5;rw[n.out,g.out];rfl
   clear j B ho hc;go_enter func71,ntmps71
   go_wp2_with fail
   refine qaa (by kernel_rfl) (by kernel_rfl) ?_
   repeat (go_big_quiet_step (first|rfl|(go_at_call 55;with_reducible exact qab (qfa _ (d.out.2.later (Later.below _))))|(go_at_call 21;with_reducible exact qab (qho g.out _))))
   refine wpQuiet_nil ?_;rintro w2 ⟨⟨_,i⟩,rfl⟩;clear l x y z C;have o:=qfa _ (d.out.2.later i)
   go_wp2_with fail
   refine o.mono ?_;rintro e p ⟨rfl,q⟩;have r:=boxed (qac i q) (.map #[] 0);have a:=u.out.later r;have I:=a.cell 4 _ rfl;have J:=a.cell 5 _ rfl;have K:=a.cell 6 _ rfl;have L:=a.cell 7 _ rfl;have M:=a.cell 8 _ rfl;have N:=a.cell 9 _ rfl;have O:=a.free 4 (by simp[qbw]);have P:=a.free 5 (by simp[qbw]);have Q:=a.free 6 (by simp[qbw]);have R:=a.free 7 (by simp[qbw]);have T:=a.free 8 (by simp[qbw]);have U:=a.free 9 (by simp[qbw]);have D:w.heap.size<=p.heap.size:=(qac i q).size;clear o
   go_wp2_with fail
   go_ret;refine⟨by rw[c.out];rfl,?_⟩;rw[show qne S s={s with opn:=true,s0:=S.a0,s1:=S.a1,s2:=S.a2,s3:=S.a3,ws:=[]} by unfold qne;rw[if_pos c.out]];exact q0t t r a (qjl.made p) D v.out S.a0 S.a1 S.a2 S.a3
 ·rw[ho]at l
  have c:Hid (qn5 S s=6):=by show _=_;unfold qn5;rw[ho];rfl
  clear j B ho;go_enter func71,ntmps71
  go_wp2_with fail
  go_ret;refine⟨by rw[c.out];rfl,?_⟩;rw[show qne S s=s by unfold qne;rw[if_neg (by rw[c.out];decide)]];exact qh4.same d.out.1 (Below.refl _ _)
end
section
open Go.Value Go.IntKind
theorem qrf {b:Nat} {G:Nat->Prop} {S:qaf} (now d0 d1 d2 d3:Int) {a:Option Addr} {cap:Nat} {ws:List Wr} (w:World) (h:PS w b G S) (hI:qcr S) (hW:qat w a cap ws) (hX:∀k aa,ws≠[]->a=some ⟨k,aa,none⟩->¬G k):
 Calls Tryz.prog 109 #[.pointer (some ⟨b,0,none⟩),int i64 now,.agg #[int i64 d0,int i64 d1,int i64 d2,int i64 d3],.slice a ws.length cap] w (qtd w b G S now d0 d1 d2 d3 ws):=by
 have q:=(qbe.new w 47 d0 d1 d2 d3).boxed (.cells #[int i64 0,int i64 0,int i64 0,int i64 0,int i64 0,int i64 0,int i64 0,int i64 0,.slice none 0 0] 80);have c:qag ((w.alloc (.cells #[int i64 d0,int i64 d1,int i64 d2,int i64 d3] 47)).alloc (.cells #[int i64 0,int i64 0,int i64 0,int i64 0,int i64 0,int i64 0,int i64 0,int i64 0,.slice none 0 0] 80)) (w.heap.size+1) txZ:=qag.new (w:=w.alloc (.cells #[int i64 d0,int i64 d1,int i64 d2,int i64 d3] 47)) (T:=80) (n:=w.heap.size+1) [int i64 0,int i64 0,int i64 0,int i64 0,int i64 0,int i64 0,int i64 0,int i64 0,.slice none 0 0] (by simp);have hb:=boxed (boxed (Below.refl _ w) (.cells #[int i64 d0,int i64 d1,int i64 d2,int i64 d3] 47)) (.cells #[int i64 0,int i64 0,int i64 0,int i64 0,int i64 0,int i64 0,int i64 0,int i64 0,.slice none 0 0] 80);have WI:=hW.later hb;have HP:Hid (PS w b G S):=h;have HW:Hid (qat w a cap ws):=hW;have HX:Hid (∀k aa,ws≠[]->a=some ⟨k,aa,none⟩->¬G k):=hX;have HI:Hid (qcr S):=hI
 have hB:w.heap.size<=w.heap.size+1:=by omega
 have Q:=hI.id0;have R:=hI.id3
 have z:Hid (∀(w9:World) (ev:Int),qk9 S now d0 d1 d2 d3 ws=ev->ev≠0->Below w.heap.size w w9->Hid (qtd w b G S now d0 d1 d2 d3 ws (.returned (.tuple #[txV tx0,qa9 ev])) w9)):=λw9 ev h1 h2 h3=>by
  refine⟨tx0,G,by rw[h1],?_,⟨⟨Nat.le_refl _,by decide,.inl rfl⟩,?_,λk U=>.inl U,qae.ofBelow h3,λk U=>absurd rfl U.1⟩⟩
  ·unfold qna;rw[if_neg (by rw[h1];exact h2)];rfl
  ·unfold qkq;rw[if_neg (by rw[h1];exact h2)];exact HP.out.later h3
 clear h hW hX hI;go_enter Tryz.func109,Tryz.ntmps109
 go_wp2_with fail
 refine(qcm WI).mono ?_;rintro e w1 ⟨rfl,hb1⟩;replace q:=q.later hb1;replace c:=c.later hb1;replace hb:=qac hb hb1;clear hb1 WI;cases hok:qd7 ws
 ·have E:Hid (qk9 S now d0 d1 d2 d3 ws=1):=by show qay _ _ _ _ _ _ _ _=1;unfold qay;rw[if_pos hok]
  clear hok;have r0:=c.cell 0 _ rfl;have p0:=c.free 0 (by simp[txZ]);have r1:=c.cell 1 _ rfl;have p1:=c.free 1 (by simp[txZ]);have r2:=c.cell 2 _ rfl;have p2:=c.free 2 (by simp[txZ]);have r3:=c.cell 3 _ rfl;have p3:=c.free 3 (by simp[txZ]);have r4:=c.cell 4 _ rfl;have p4:=c.free 4 (by simp[txZ]);have r5:=c.cell 5 _ rfl;have p5:=c.free 5 (by simp[txZ]);have r6:=c.cell 6 _ rfl;have p6:=c.free 6 (by simp[txZ]);have r7:=c.cell 7 _ rfl;have p7:=c.free 7 (by simp[txZ]);have r8:=c.cell 8 _ rfl;have p8:=c.free 8 (by simp[txZ]);have y:=qbk c rfl 0 0 0 0 0 0 0 0 (.slice none 0 0);have C:=qfu hb hB 0 0 0 0 0 0 0 0 (.slice none 0 0);have v:=z.out _ 1 E.out (by decide) C;clear z
  go_wp2_with fail
  exact bodyPost_ret (qco (m:=tx0) (ev:=qa9 1) y rfl rfl) rfl v.out
 ·have HOK:Hid (qd7 ws=true):=hok;clear hok;obtain⟨lv,bm,F,log,waits,PM,hl,hw,hG⟩:=HP.out.later hb;have I:Hid (log.map (·.t)=S.log/\waits.map (·.t)=S.waits/\∀k,G k↔(qa4 b lv bm F k\/∃m∈log++waits,m.blk k)):=⟨hl,hw,hG⟩
  have hll:log.length=S.log.length:=by rw[<-hl];simp
  have J:Hid (qc9 w1 b lv bm F S log waits):=PM;clear PM hl hw hG;have c0:=Later.cell q.c0;have c1:=Later.cell q.c1;have c2:=Later.cell q.c2;have c3:=Later.cell q.c3;have k1:=Later.cell (J.out.box.cell 1 _ rfl);have k2:=Later.cell (J.out.box.cell 2 _ rfl);have k3:=Later.cell (J.out.box.cell 3 _ rfl);have k4:=Later.cell (J.out.box.cell 4 _ rfl);cases hv:qau d0 d1 d2 d3
  ·have L:Hid (qau d0 d1 d2 d3=false):=hv
   have E:Hid (qk9 S now d0 d1 d2 d3 ws=10):=by show qay _ _ _ _ _ _ _ _=10;unfold qay;rw[if_neg (by rw[HOK.out];decide),if_pos hv]
   clear hv
   go_wp2_with fail
   refine qaa (by kernel_rfl) (by kernel_rfl) ?_
   repeat (go_big_quiet_step (first|rfl|(go_at_call 113;with_reducible exact qab (qca L.out _))))
   refine wpQuiet_nil ?_;rintro w2 ⟨⟨_,u⟩,rfl⟩;replace c:=c.later u;replace hb:=qac hb u;clear u c0 c1 c2 c3 k1 k2 k3 k4 J;have r0:=c.cell 0 _ rfl;have p0:=c.free 0 (by simp[txZ]);have r1:=c.cell 1 _ rfl;have p1:=c.free 1 (by simp[txZ]);have r2:=c.cell 2 _ rfl;have p2:=c.free 2 (by simp[txZ]);have r3:=c.cell 3 _ rfl;have p3:=c.free 3 (by simp[txZ]);have r4:=c.cell 4 _ rfl;have p4:=c.free 4 (by simp[txZ]);have r5:=c.cell 5 _ rfl;have p5:=c.free 5 (by simp[txZ]);have r6:=c.cell 6 _ rfl;have p6:=c.free 6 (by simp[txZ]);have r7:=c.cell 7 _ rfl;have p7:=c.free 7 (by simp[txZ]);have r8:=c.cell 8 _ rfl;have p8:=c.free 8 (by simp[txZ]);have y:=qbk c rfl 0 0 0 0 0 0 0 0 (.slice none 0 0);have C:=qfu hb hB 0 0 0 0 0 0 0 0 (.slice none 0 0);have v:=z.out _ 10 E.out (by decide) C;clear z
   go_wp2_with fail
   exact bodyPost_ret (qco (m:=tx0) (ev:=qa9 10) y rfl rfl) rfl v.out
  ·have L:Hid (qau d0 d1 d2 d3=true):=hv;clear hv;cases hc:qe3 S.a0 S.a1 S.a2 S.a3 d0 d1 d2 d3
   ·have HC:Hid (qe3 S.a0 S.a1 S.a2 S.a3 d0 d1 d2 d3=false):=hc
    have E:Hid (qk9 S now d0 d1 d2 d3 ws=10):=by show qay _ _ _ _ _ _ _ _=10;unfold qay;rw[if_neg (by rw[HOK.out];decide),if_neg (by rw[L.out];decide),if_pos hc]
    clear hc
    go_wp2_with fail
    refine qaa (by kernel_rfl) (by kernel_rfl) ?_
    repeat (go_big_quiet_step (first|rfl|(go_at_call 113;with_reducible exact qab (qca L.out _))|(go_at_call 21;with_reducible exact qab (qho HC.out _))))
    refine wpQuiet_nil ?_;rintro w2 ⟨⟨_,u⟩,rfl⟩;replace c:=c.later u;replace hb:=qac hb u;clear u c0 c1 c2 c3 k1 k2 k3 k4 J;have r0:=c.cell 0 _ rfl;have p0:=c.free 0 (by simp[txZ]);have r1:=c.cell 1 _ rfl;have p1:=c.free 1 (by simp[txZ]);have r2:=c.cell 2 _ rfl;have p2:=c.free 2 (by simp[txZ]);have r3:=c.cell 3 _ rfl;have p3:=c.free 3 (by simp[txZ]);have r4:=c.cell 4 _ rfl;have p4:=c.free 4 (by simp[txZ]);have r5:=c.cell 5 _ rfl;have p5:=c.free 5 (by simp[txZ]);have r6:=c.cell 6 _ rfl;have p6:=c.free 6 (by simp[txZ]);have r7:=c.cell 7 _ rfl;have p7:=c.free 7 (by simp[txZ]);have r8:=c.cell 8 _ rfl;have p8:=c.free 8 (by simp[txZ]);have y:=qbk c rfl 0 0 0 0 0 0 0 0 (.slice none 0 0);have C:=qfu hb hB 0 0 0 0 0 0 0 0 (.slice none 0 0);have v:=z.out _ 10 E.out (by decide) C;clear z
    go_wp2_with fail
    exact bodyPost_ret (qco (m:=tx0) (ev:=qa9 10) y rfl rfl) rfl v.out
   ·have HC:Hid (qe3 S.a0 S.a1 S.a2 S.a3 d0 d1 d2 d3=true):=hc;clear hc
    go_wp2_with fail
    refine qaa (by kernel_rfl) (by kernel_rfl) ?_
    repeat (go_big_quiet_step (first|rfl|(go_at_call 113;with_reducible exact qab (qca L.out _))|(go_at_call 21;with_reducible exact qab (qho HC.out _))))
    refine wpQuiet_nil ?_;rintro w2 ⟨⟨_,u⟩,rfl⟩;replace c:=c.later u;replace q:=q.later u;replace hb:=qac hb u;have M2:Hid (qc9 w2 b lv bm F S log waits):=J.out.later u;clear u c0 c1 c2 c3 k1 k2 k3 k4 J;by_cases B:200<=log.length
    ·have E:Hid (qk9 S now d0 d1 d2 d3 ws=12):=by show qay _ _ _ _ _ _ _ _=12;unfold qay;rw[if_neg (by rw[HOK.out];decide),if_neg (by rw[L.out];decide),if_neg (by rw[HC.out];decide),if_pos (by omega)]
     have IF:=qex (decide_eq_true B) w2 M2.out;clear B hll
     go_wp2_with fail
     refine IF.mono ?_;rintro e w3 ⟨rfl,H⟩;replace c:=c.later H;replace hb:=qac hb H;clear H M2;have r0:=c.cell 0 _ rfl;have p0:=c.free 0 (by simp[txZ]);have r1:=c.cell 1 _ rfl;have p1:=c.free 1 (by simp[txZ]);have r2:=c.cell 2 _ rfl;have p2:=c.free 2 (by simp[txZ]);have r3:=c.cell 3 _ rfl;have p3:=c.free 3 (by simp[txZ]);have r4:=c.cell 4 _ rfl;have p4:=c.free 4 (by simp[txZ]);have r5:=c.cell 5 _ rfl;have p5:=c.free 5 (by simp[txZ]);have r6:=c.cell 6 _ rfl;have p6:=c.free 6 (by simp[txZ]);have r7:=c.cell 7 _ rfl;have p7:=c.free 7 (by simp[txZ]);have r8:=c.cell 8 _ rfl;have p8:=c.free 8 (by simp[txZ]);have y:=qbk c rfl 0 0 0 0 0 0 0 0 (.slice none 0 0);have C:=qfu hb hB 0 0 0 0 0 0 0 0 (.slice none 0 0);have v:=z.out _ 12 E.out (by decide) C;clear z
     go_wp2_with fail
     exact bodyPost_ret (qco (m:=tx0) (ev:=qa9 12) y rfl rfl) rfl v.out
    ·have IF:=qex (decide_eq_false B) w2 M2.out;obtain⟨⟨nw,g,ne⟩,hnx⟩:∃x,qeo S.lw S.lc now=x:=⟨_,rfl⟩
     have HN:Hid (qk9 S now d0 d1 d2 d3 ws=ne):=by show qay _ _ _ _ _ _ _ _=ne;unfold qay;rw[if_neg (by rw[HOK.out];decide),if_neg (by rw[L.out];decide),if_neg (by rw[HC.out];decide),if_neg (by omega),hnx]
     have HNX:Hid (qeo S.lw S.lc now=(nw,g,ne)):=hnx
     have HF:Hid (S.log.length<200):=by show _<_;omega
     clear B hnx hll
     go_wp2_with fail
     refine IF.mono ?_;rintro e w3 ⟨rfl,H⟩;replace c:=c.later H;replace q:=q.later H;replace hb:=qac hb H;have M3:Hid (qc9 w3 b lv bm F S log waits):=M2.out.later H;clear H M2;have k5:=M3.out.box.cell 5 _ rfl;have k6:=M3.out.box.cell 6 _ rfl
     go_wp2_with fail
     refine(q2a HNX.out _).mono ?_;rintro e w4 ⟨rfl,V⟩;have HSZ:Hid (w.heap.size+1<w4.heap.size):=(c.later V).lt;replace c:=(c.later V).boxed (.cells #[int i64 nw,int i64 g] 52);replace q:=(q.later V).boxed (.cells #[int i64 nw,int i64 g] 52);replace hb:=boxed (qac hb V) (.cells #[int i64 nw,int i64 g] 52);have RS:=qag.new (w:=w4) (T:=52) [int i64 nw,int i64 g] rfl;have M4:Hid (qc9 (w4.alloc (.cells #[int i64 nw,int i64 g] 52)) b lv bm F S log waits):=M3.out.later (boxed V _);clear V M3 k5 k6;by_cases hne:ne=0
     rotate_left
     ·have ee:qa9 ne=.iface 29 (int i64 ne):=by unfold qa9;rw[if_neg hne]
      rw[ee];have HEE:Hid (qa9 ne=.iface 29 (int i64 ne)):=ee;clear ee;have r0:=c.cell 0 _ rfl;have p0:=c.free 0 (by simp[txZ]);have r1:=c.cell 1 _ rfl;have p1:=c.free 1 (by simp[txZ]);have r2:=c.cell 2 _ rfl;have p2:=c.free 2 (by simp[txZ]);have r3:=c.cell 3 _ rfl;have p3:=c.free 3 (by simp[txZ]);have r4:=c.cell 4 _ rfl;have p4:=c.free 4 (by simp[txZ]);have r5:=c.cell 5 _ rfl;have p5:=c.free 5 (by simp[txZ]);have r6:=c.cell 6 _ rfl;have p6:=c.free 6 (by simp[txZ]);have r7:=c.cell 7 _ rfl;have p7:=c.free 7 (by simp[txZ]);have r8:=c.cell 8 _ rfl;have p8:=c.free 8 (by simp[txZ]);have y:=qbk c rfl 0 0 0 0 0 0 0 0 (.slice none 0 0);have C:=qfu hb hB 0 0 0 0 0 0 0 0 (.slice none 0 0);have v:=z.out _ ne HN.out hne C;rw[HEE.out]at v;clear z
      go_wp2_with fail
      exact bodyPost_ret (qco (m:=tx0) y rfl rfl) rfl v.out
     ·subst hne;rw[show qa9 0=.nilIface from rfl];obtain⟨D,hD⟩:∃D,qao S.id S.a0 S.a1 S.a2 S.a3=D:=⟨_,rfl⟩;have hd:=HI.out.dep S.id;rw[hD]at hd;have hwr:=qek hd
      have HCT0:qbt S now d0 d1 d2 d3 ws=⟨S.id,D+1,nw,g,qf8 S.id D d0,qf7 S.id D d1,qgf S.id D d2,qf5 S.id D d3,ws⟩:=by unfold qbt;rw[hD,HNX.out]
      obtain⟨CI,w15,HF2,ho⟩:=qoa HI.out HN.out;have HL5:Hid (1<=ws.length/\ws.length<=5):=⟨w15,HF2⟩
      go_wp2_with fail
      obtain⟨M,hW4⟩:∃M,w4.alloc (.cells #[int i64 nw,int i64 g] 52)=M:=⟨_,rfl⟩;rw[hW4]at c q hb RS M4 ⊢;clear hW4 HF2 ho w15;have k0:=M4.out.box.cell 0 _ rfl;have W:=M4.out.box.cell _ _ (qny Q R);rw[hD]at W;have v1:=qmv q Q R;have v2:=qul q Q R
      have hi4:S.id<4:=by omega
      have HD:Hid (qao S.id S.a0 S.a1 S.a2 S.a3=D):=hD;have HGS:Hid (∀k,G k->k<w.heap.size):=HP.out.lt
      have nb:b≠w.heap.size:=by have:=HGS.out b ((I.out.2.2 b).2 (.inl (.inl rfl)));omega
      clear hD
      go_region
      have K:=(qze q Q R D).drew;have RT5:=(c.far ⟨w.heap.size,S.id.toNat,none⟩ (int i64 D) (by simp)).drew;have RS5:=(RS.far ⟨w.heap.size,S.id.toNat,none⟩ (int i64 D) (by have:=HSZ.out;simp only;omega)).drew;have hb5:=(hb.setCell (p:=⟨w.heap.size,S.id.toNat,none⟩) (Nat.le_refl _) (int i64 D)).drew;have P5:Hid (PS (M.setCell ⟨w.heap.size,S.id.toNat,none⟩ (int i64 D)).drew b G S):=HP.out.later hb5;obtain⟨d,hW5⟩:∃d,(M.setCell ⟨w.heap.size,S.id.toNat,none⟩ (int i64 D)).drew=d:=⟨_,rfl⟩;rw[hW5]at K RT5 RS5 hb5 P5 ⊢;obtain⟨r,he0⟩:∃x,qf8 S.id D d0=x:=⟨_,rfl⟩;obtain⟨i,he1⟩:∃x,qf7 S.id D d1=x:=⟨_,rfl⟩;obtain⟨j,he2⟩:∃x,qgf S.id D d2=x:=⟨_,rfl⟩;obtain⟨s,he3⟩:∃x,qf5 S.id D d3=x:=⟨_,rfl⟩;rw[he0,he1,he2,he3]at K HCT0;have HCT:Hid (qbt S now d0 d1 d2 d3 ws=⟨S.id,D+1,nw,g,r,i,j,s,ws⟩):=HCT0
      have M5:Hid (qc9 d b lv bm F S log waits):=by
          have hbb:Below M.heap.size M M:=Below.refl _ _
          have:=M4.out.kept (w':=d) (λk U=>by
           rw[<-hW5];have hkk:k<w.heap.size:=HGS.out k ((I.out.2.2 k).2 U)
           exact Below.heap_setCell _ _ _ _ (by simp only;omega)) (by rw[<-hW5];simp[World.setCell,World.drew])
          exact this
      clear hW5 he0 he1 he2 he3 HCT0 q c RS hb M4 k0 W v1 v2;have k0:=M5.out.box.cell 0 _ rfl;have W:=M5.out.box.cell _ _ (qny Q R);rw[HD.out]at W;have y0:=RS5.cell 0 _ rfl;have y1:=RS5.cell 1 _ rfl;have v0:=K.c0;have v1:=K.c1;have v2:=K.c2;have v3:=K.c3;have l1:=M5.out.box.lt;have l2:=RS5.lt;have l3:=K.lt;have Y0:=λ(w':World) (h:Below d.heap.size d w')=>cell_later h k0;have Y1:=λ(w':World) (h:Below d.heap.size d w')=>cell_later h W;have Y2:=λ(w':World) (h:Below d.heap.size d w')=>cell_later h y0;have Y3:=λ(w':World) (h:Below d.heap.size d w')=>cell_later h y1;have Y4:=λ(w':World) (h:Below d.heap.size d w')=>cell_later h v0;have Y5:=λ(w':World) (h:Below d.heap.size d w')=>cell_later h v1;have Y6:=λ(w':World) (h:Below d.heap.size d w')=>cell_later h v2;have Y7:=λ(w':World) (h:Below d.heap.size d w')=>cell_later h v3;have hb50:=(Below.refl d.heap.size d).drew;clear k0 W y0 y1 v0 v1 v2 v3
      go_wp2_with fail
      go_region_held3 (λw'=>Below d.heap.size d w') (repeat (first|(with_reducible assumption)|(with_reducible exact Below.refl _ _)|(with_reducible refine boxed ?_ _)|(with_reducible refine Below.drew ?_)|(refine Below.setCell ?_ (Nat.le_refl _) _))) (fail)
      have hw2:IntKind.i64.wrap (D+1)=D+1:=by rw[<-qek hd];unfold wrap64 IntKind.wrap;simp[IntKind.signed,IntKind.bits];omega
      all_goals
          rw[hw2];clear hw2;have hx6:=boxed (Below.refl _ d) (.cells #[int i64 S.id,int i64 (D+1),int i64 nw,int i64 g,int i64 r,int i64 i,int i64 j,int i64 s,.slice a ws.length cap] 80);have X:=(qag.new (w:=d) (T:=80) [int i64 S.id,int i64 (D+1),int i64 nw,int i64 g,int i64 r,int i64 i,int i64 j,int i64 s,.slice a ws.length cap] rfl).drew;change qag (d.alloc (.cells #[int i64 S.id,int i64 (D+1),int i64 nw,int i64 g,int i64 r,int i64 i,int i64 j,int i64 s,.slice a ws.length cap] 80)).drew d.heap.size [int i64 S.id,int i64 (D+1),int i64 nw,int i64 g,int i64 r,int i64 i,int i64 j,int i64 s,.slice a ws.length cap]at X;have RT6:=(RT5.later hx6).drew;have hb6:=(qac hb5 hx6).drew;have M6:Hid (qc9 (d.alloc (.cells #[int i64 S.id,int i64 (D+1),int i64 nw,int i64 g,int i64 r,int i64 i,int i64 j,int i64 s,.slice a ws.length cap] 80)).drew b lv bm F S log waits):=(M5.out.later hx6).later (Below.refl _ _).drew;have HS6:Hid (w.heap.size+1<d.heap.size/\d.heap.size<(d.alloc (.cells #[int i64 S.id,int i64 (D+1),int i64 nw,int i64 g,int i64 r,int i64 i,int i64 j,int i64 s,.slice a ws.length cap] 80)).drew.heap.size):=⟨RT5.lt,X.lt⟩;obtain⟨W6,hW6⟩:∃W6,(d.alloc (.cells #[int i64 S.id,int i64 (D+1),int i64 nw,int i64 g,int i64 r,int i64 i,int i64 j,int i64 s,.slice a ws.length cap] 80)).drew=W6:=⟨_,rfl⟩;rw[hW6]at X RT6 hb6 M6 HS6 ⊢;clear hW6 hx6 Y0 Y1 Y2 Y3 Y4 Y5 Y6 Y7 hb50 l1 l2 l3 RS5 K RT5 hb5 M5 P5;obtain⟨x0,x1,x2,x3,x4,x5,x6,x7,x8⟩:=X.c9;have CP:=qf6 ⟨⟨S.id,D+1,nw,g,r,i,j,s,ws⟩,a,cap⟩ W6 (HW.out.later hb6) HL5.out.1 (by have:=HL5.out;simp only;omega);simp only[txV]at CP
          have HLL:Hid (log.length=S.log.length):=by show _=_;rw[<-I.out.1];simp
          go_wp2_with fail
          refine CP.mono ?_;rintro e N ⟨O,Y,rfl,W71,hk1,Z⟩;have HM1:Hid (O.t=⟨S.id,D+1,nw,g,r,i,j,s,ws⟩/\qat N O.wa O.wc O.t.ws/\∀k,O.blk k->W6.heap.size<=k):=⟨Y,W71,hk1⟩
          have AP:=qqd O N (M6.out.later Z) ⟨W71,λk e B=>by
           have q1:=hk1 k e;have q2:=M6.out.lt k B
           omega⟩ (by rw[Y];exact Q) (by rw[Y];exact R) (by rw[Y];have q1:=HI.out.len;have q2:=HF.out;have q3:=HL5.out;show S.l.length+ws.length<=1000;omega) (by have q1:=HLL.out;have q2:=HF.out;omega)
          have RX7:=X.later Z;have RT7:=RT6.later Z;have HB7:Hid (Below w.heap.size w N/\W6.heap.size<=N.heap.size):=⟨qac hb6 Z,Z.size⟩;clear W71 hk1 Z X RT6 x0 x1 x2 x3 x4 x5 x6 x7 x8 CP;obtain⟨t1,wa1,wc1⟩:=O;simp only at Y;subst Y
          go_wp2_with fail
          refine AP.mono ?_;rintro e w8 ⟨rfl,lv',F',PM8,nf8,P⟩
          have nfx:∀k,w.heap.size<=k->¬qa4 b lv bm F k:=λk U B=>by
           have:=HGS.out k ((I.out.2.2 k).2 (.inl B));omega
          have RX8:=RX7.kept (P.block _ RX7.lt (nfx _ (by have:=HS6.out;omega))) P.size;have RT8:=RT7.kept (P.block _ RT7.lt (nfx _ (by omega))) P.size
          have W8:qat w8 a cap ws:=qat.kept (m:=⟨⟨S.id,D+1,nw,g,r,i,j,s,ws⟩,a,cap⟩) (w:=N) (HW.out.later HB7.out.1) (λk e=>P.block k (qat.blk_lt (m:=⟨⟨S.id,D+1,nw,g,r,i,j,s,ws⟩,a,cap⟩) (HW.out.later HB7.out.1) k e) (λB=>by
           obtain⟨i,aa,j⟩:=e
           exact HX.out k aa i j ((I.out.2.2 k).2 (.inl B))))
          have HQ8:Hid (qc9 w8 b lv' bm F' (qbr S ⟨S.id,D+1,nw,g,r,i,j,s,ws⟩) (log++[⟨⟨S.id,D+1,nw,g,r,i,j,s,ws⟩,wa1,wc1⟩]) waits/\(∀k,qa4 b lv' bm F' k->qa4 b lv bm F k\/N.heap.size<=k)/\qae (qa4 b lv bm F) N w8):=⟨PM8,nf8,P⟩;have CP2:=qf6 ⟨⟨S.id,D+1,nw,g,r,i,j,s,ws⟩,a,cap⟩ w8 W8 HL5.out.1 (by have:=HL5.out;simp only;omega);simp only[txV]at CP2;clear PM8 nf8 P nfx W8 RX7 RT7 AP;obtain⟨x0,x1,x2,x3,x4,x5,x6,x7,x8⟩:=RX8.c9
          go_wp2_with fail
          refine CP2.mono ?_;rintro e w9 ⟨m2,hm2,rfl,W92,hk2,hb9⟩;obtain⟨t2,wa2,wc2⟩:=m2;simp only at hm2 W92;subst hm2;have o:=RT8.later hb9;have v:=qwf (wa2:=wa2) (wc2:=wc2) HP.out HB7.out.1 (by have:=HS6.out;have:=HB7.out.2;omega) HQ8.out.1 HQ8.out.2.1 HQ8.out.2.2 (λk e=>by have:=HM1.out.2.2 k e;have:=HS6.out;omega) I.out.1 I.out.2.1 I.out.2.2 hb9 W92 (λk e=>⟨by have:=hk2 k e;have:=HS6.out;have:=HB7.out.2;have:=HQ8.out.2.2.size;omega,hk2 k e⟩) (by rw[HCT.out]) HN.out;clear hk2 hb9 W92 RX8 RT8 x0 x1 x2 x3 x4 x5 x6 x7 x8 CP2 HQ8 HM1;simp only[txV];have r0:=o.cell 0 _ rfl;have p0:=o.free 0 (by simp[txZ]);have r1:=o.cell 1 _ rfl;have p1:=o.free 1 (by simp[txZ]);have r2:=o.cell 2 _ rfl;have p2:=o.free 2 (by simp[txZ]);have r3:=o.cell 3 _ rfl;have p3:=o.free 3 (by simp[txZ]);have r4:=o.cell 4 _ rfl;have p4:=o.free 4 (by simp[txZ]);have r5:=o.cell 5 _ rfl;have p5:=o.free 5 (by simp[txZ]);have r6:=o.cell 6 _ rfl;have p6:=o.free 6 (by simp[txZ]);have r7:=o.cell 7 _ rfl;have p7:=o.free 7 (by simp[txZ]);have r8:=o.cell 8 _ rfl;have p8:=o.free 8 (by simp[txZ]);have y:=qbk o rfl S.id (D+1) nw g r i j s (.slice wa2 ws.length wc2)
          go_wp2_with fail
          exact bodyPost_ret (qco (m:=⟨⟨S.id,D+1,nw,g,r,i,j,s,ws⟩,wa2,wc2⟩) y rfl rfl) rfl v.out
end
section
open Go.Value Go.IntKind
variable {b:Nat}
theorem qj6 {tmps:Array Value} {w:World} {v:Ver} {ev:Value} (h:qag w b (qah v)) (a:tmps[6]?=some (.pointer (some ⟨b,0,none⟩))) (c:tmps[7]?=some ev):
 (results Tryz.f101 tmps).run Tryz.prog w=.ok (.tuple #[.agg (qah v).toArray,ev]) w:=by
 obtain⟨d,e,g,i,j,k⟩:=h.c6;simp[results,Tryz.results101,go_sem,a,c,d,e,g,i,j,k,qah]
theorem qzz {lv:Value} {bm:Nat} {F:Nat->Prop} {S:qaf} {log waits:List TxM} (key a0 a1 a2 a3:Int) (w:World) (h:qc9 w b lv bm F S log waits) (p:qcr S):
 Calls Tryz.prog 101 #[.pointer (some ⟨b,0,none⟩),int i64 key,.agg #[int i64 a0,int i64 a1,int i64 a2,int i64 a3]] w λe w'=>
  e=.returned (.tuple #[.agg (qah (qer S key a0 a1 a2 a3).1).toArray,qa9 (qer S key a0 a1 a2 a3).2])/\Below w.heap.size w w':=by
 have d:=(qbe.new w 47 a0 a1 a2 a3).boxed (.cells #[int i64 0,int i64 0,int i64 0,int i64 0,.string ⟨#[]⟩,.bool false] 130);have a:qag ((w.alloc (.cells #[int i64 a0,int i64 a1,int i64 a2,int i64 a3] 47)).alloc (.cells #[int i64 0,int i64 0,int i64 0,int i64 0,.string ⟨#[]⟩,.bool false] 130)) (w.heap.size+1) (qah qcj):=qag.new (w:=w.alloc (.cells #[int i64 a0,int i64 a1,int i64 a2,int i64 a3] 47)) (T:=130) (n:=w.heap.size+1) [int i64 0,int i64 0,int i64 0,int i64 0,.string ⟨#[]⟩,.bool false] (by simp);have hb:=boxed (boxed (Below.refl _ w) (.cells #[int i64 a0,int i64 a1,int i64 a2,int i64 a3] 47)) (.cells #[int i64 0,int i64 0,int i64 0,int i64 0,.string ⟨#[]⟩,.bool false] 130);have g:Hid _:=h.later hb;have U:Hid _:=h;clear h;have B:=Later.cell (g.out.box.cell 1 _ rfl);have C:=Later.cell (g.out.box.cell 2 _ rfl);have D:=Later.cell (g.out.box.cell 3 _ rfl);have E:=Later.cell (g.out.box.cell 4 _ rfl);have c0:=Later.cell d.c0;have c1:=Later.cell d.c1;have c2:=Later.cell d.c2;have c3:=Later.cell d.c3;go_enter Tryz.func101,Tryz.ntmps101
 go_wp2_with fail
 refine qaa (by kernel_rfl) (by kernel_rfl) ?_
 repeat (go_big_quiet_step (first|rfl|(go_at_call 21;exact qab (qnp _ _ _ _ _ _ _ _ _))))
 refine wpQuiet_nil ?_;rintro r ⟨⟨_,i⟩,rfl⟩;replace a:=a.later i;replace d:=qbe.later i d;replace hb:=qac hb i;have G:Hid _:=g.out.later i;clear g B C D E c0 c1 c2 c3 i;cases hc:qe3 S.a0 S.a1 S.a2 S.a3 a0 a1 a2 a3
 ·have s:Hid (qer S key a0 a1 a2 a3=(qcj,10)):=by show qer S key a0 a1 a2 a3=(qcj,10);unfold qer;rw[hc];rfl
  have H:=a.cell 0 _ rfl;have p0:=a.free 0 (by simp[qah]);have I:=a.cell 1 _ rfl;have p1:=a.free 1 (by simp[qah]);have J:=a.cell 2 _ rfl;have p2:=a.free 2 (by simp[qah]);have K:=a.cell 3 _ rfl;have p3:=a.free 3 (by simp[qah]);have L:=a.cell 4 _ rfl;have M:=a.free 4 (by simp[qah]);have N:=a.cell 5 _ rfl;have O:=a.free 5 (by simp[qah]);have u:=qoo a 0 0 0 0 ⟨#[]⟩ false;have y:=qov hb (show w.heap.size<=w.heap.size+1 by omega) 0 0 0 0 ⟨#[]⟩ false;clear hc
  go_wp2_with fail
  refine bodyPost_ret (qj6 (v:=qcj) (ev:=qa9 10) u rfl rfl) rfl ⟨?_,y⟩;rw[s.out]
 ·obtain⟨⟨⟨wl,j,st,k,m,o⟩,ev⟩,q⟩:∃x,qdf key a0 a1 a2 a3 S.l=x:=⟨_,rfl⟩
  have s:Hid (qer S key a0 a1 a2 a3=(⟨wl,j,st,k,m,o⟩,ev)):=by show qer S key a0 a1 a2 a3=_;unfold qer;rw[hc,<-q];rfl
  have P:Hid (Calls Tryz.prog 124 #[.pointer (some ⟨b,25,none⟩),int i64 key,.agg #[int i64 a0,int i64 a1,int i64 a2,int i64 a3]] r.drew λe w'=>e=.returned (.tuple #[.agg #[int i64 wl,int i64 j,int i64 st,int i64 k,.string m,.bool o],qa9 ev])/\qbe w' w.heap.size a0 a1 a2 a3/\qag w' (w.heap.size+1) (qah qcj)/\Below w.heap.size w w'):=by
   refine(qqa key a0 a1 a2 a3 r.drew (G.out.later (Below.refl _ r).drew).st (by have:=p.len;have:=p.log;omega) p.apart p.ok).mono ?_;rintro e w' ⟨rfl,z⟩;refine⟨by rw[q];rfl,qbe.later z d.drew,a.drew.later z,qac hb.drew z⟩
  have V:Hid _:=q;have W:=λ(w':World) (h:qbe w' w.heap.size a0 a1 a2 a3)=>h.c0;have X:=λ(w':World) (h:qbe w' w.heap.size a0 a1 a2 a3)=>h.c1;have Y:=λ(w':World) (h:qbe w' w.heap.size a0 a1 a2 a3)=>h.c2;have Z:=λ(w':World) (h:qbe w' w.heap.size a0 a1 a2 a3)=>h.c3;have aa:=d.drew
  have Q:w.heap.size+1≠w.heap.size:=by omega
  clear hc q d a
  go_wp2_with fail
  go_region_held3 (λw'=>qbe w' w.heap.size a0 a1 a2 a3) (first|(with_reducible assumption)|(with_reducible exact qub (by with_reducible assumption) Q _ _ _ _ _ _))
   (first|(go_at_call 124;with_reducible refine P.out.mono ?_;rintro e w5 ⟨rfl,RA5,c,R⟩;have H:=c.cell 0 _ rfl;have p0:=c.free 0 (by simp[qah]);have I:=c.cell 1 _ rfl;have p1:=c.free 1 (by simp[qah]);have J:=c.cell 2 _ rfl;have p2:=c.free 2 (by simp[qah]);have K:=c.cell 3 _ rfl;have p3:=c.free 3 (by simp[qah]);have L:=c.cell 4 _ rfl;have M:=c.free 4 (by simp[qah]);have N:=c.cell 5 _ rfl;have O:=c.free 5 (by simp[qah])))
  all_goals
   have u:=qoo c wl j st k m o;have y:=qov R (show w.heap.size<=w.heap.size+1 by omega) wl j st k m o
   go_wp2_with fail
   refine bodyPost_ret (qj6 (v:=⟨wl,j,st,k,m,o⟩) (ev:=qa9 ev) u rfl rfl) rfl ⟨?_,y⟩;rw[s.out]
end
theorem qv0 {b:Nat} {G:Nat->Prop} {S:qaf} (key a0 a1 a2 a3:Int) (w:World) (h:PS w b G S) (a:qcr S):
 Calls Tryz.prog 101 #[.pointer (some ⟨b,0,none⟩),.int .i64 key,.agg #[.int .i64 a0,.int .i64 a1,.int .i64 a2,.int .i64 a3]] w λe w'=>
  e=.returned (.tuple #[.agg (qah (qer S key a0 a1 a2 a3).1).toArray,qa9 (qer S key a0 a1 a2 a3).2])/\Below w.heap.size w w':=by
 obtain⟨lv,bm,F,log,waits,h,_,_,_⟩:=h;exact qzz key a0 a1 a2 a3 w h a
section
open Tryz Go.Maps
variable {k:Int}
theorem q0a (h:(Lit.int .i64 k).wf=true):keyOf prog 3 (.int .i64 k)=some (.int .i64 k):=by
 unfold keyOf;rw[underlying3];simp[mapKey,h,underlying3]
variable {bm:Nat} {v:Bool}
theorem qdx {f:Array Oper} {rest:List Oper} {o:Oper} {a:Act} {Q:Exit->Act->World->Prop} (w:World) (g:o.guard=none) (c d:Operand) (h:o.op=Op.lookup 134 c d true) {n:Nat} {D:DataW Value} {u:Value}
 (i:a.eval c=.map (some bm)) (j:w.ownsMap prog 3 qe8 bm n D) (m:a.eval d=.int .i64 k) (p:keyOf prog 3 (.int .i64 k)=some (.int .i64 k)) (q:Maps.has D (.int .i64 k)=v) (r:D.atKey (.int .i64 k) (.held q5u)=.held u)
 (x:wpList prog f Q rest (a.put o.dst (.tuple #[u,.bool v])) w):wpList prog f Q (o::rest) a w:=by
 refine wpList_lookup_own_ok w g c d 134 h 3 34 qug underlying134 qe8 (q3x w) (.held q5u) [] rfl bm n D i j (.int .i64 k) (.int .i64 k) m p ?_;intro z ps y;have e:=qlu y;rw[r]at e;injection e with e;rw[<-e,q];exact x
variable {w:World} {l:List Wr}
theorem qjl.look (h:qjl w bm l) (k:Int):∃D,w.ownsMap prog 3 qe8 bm (qbs l).length D/\Maps.has D (.int .i64 k)=(qe7 l k).isSome/\D.atKey (.int .i64 k) (.held q5u)=.held (wrV (qdo l k)):=by
 obtain⟨_,D,c,a⟩:=h;refine⟨D,c,?_⟩;cases ho:qe7 l k with
 |none=>
  have e:qdo l k=⟨0,⟨#[]⟩,false⟩:=by unfold qdo;rw[ho];rfl
  rw[e];exact⟨(a.no k ho).1,(a.no k ho).2 _⟩
 |some x=>
  have e:qdo l k=x:=by unfold qdo;rw[ho];rfl
  rw[e];exact⟨(a.has k x ho).1,(a.has k x ho).2 _⟩
theorem qjl.len (h:qjl w bm l) (a:TypeId):(Builtin.len_ #[134] a #[.map (some bm)]).run prog w=.ok (.int .i64 (qbs l).length) w:=by
 obtain⟨_,D,c,d⟩:=h;have:=c.len underlying134 a;rw[d.size]at this;exact this
theorem qjl.later {w':World} (h:qjl w bm l) (hb:Below w.heap.size w w'):qjl w' bm l:=h.kept (hb.block bm h.lt)
def q5s (x:Wr):Int:=if x.gone=true then 8 else 0
def q5v (x:Wr):ByteArray:=if x.gone=true then ⟨#[]⟩else x.data
theorem qtb (x:Wr) (w:World):
 Calls prog 100 #[wrV x] w λe w'=>e=.returned (.tuple #[.string (q5v x),qa9 (q5s x)])/\Below w.heap.size w w':=by
 obtain⟨xk,xd,xg⟩:=x;show Calls prog 100 #[.agg #[.int .i64 xk,.string xd,.bool xg]] w _;have hb:=boxed (Below.refl _ w) (.cells #[.int .i64 xk,.string xd,.bool xg] 34);cases xg
 ·go_enter func100,ntmps100
  go_wp2_with fail
  go_ret2;exact⟨rfl,boxed (Below.refl _ w) _⟩
 ·go_enter func100,ntmps100
  go_wp2_with fail
  go_ret2;exact⟨rfl,boxed (Below.refl _ w) _⟩
variable {b:Nat} {s:qbp}
theorem qup {C:Nat} {G Q:Nat->Prop} {S:qaf} (key:Int) (m:(Lit.int .i64 key).wf=true) (w:World) (h:PSe w b G s) (n:PS w C Q S) (o:qcr S):
 Calls prog 67 #[.pointer (some ⟨b,0,none⟩),.pointer (some ⟨C,0,none⟩),.int .i64 key] w λe w'=>e=.returned (.tuple #[.string (qc0 S s key).1,qa9 (qc0 S s key).2])/\Below w.heap.size w w':=by
 have R:Hid (keyOf prog 3 (.int .i64 key)=some (.int .i64 key)):=q0a m;have T:Hid (PS w C Q S/\qcr S):=⟨n,o⟩;obtain⟨mv,B,hm⟩:=h;have HB:Hid _:=B;have p:=B.cell 4 _ rfl;rcases hm with ⟨a,rfl,_,_⟩|⟨a,bm,rfl,_,E,_⟩
 ·rw[a]at p
  have c:Hid (qc0 S s key=(⟨#[]⟩,6)):=by show _=_;unfold qc0;rw[a];rfl
  clear n o a B m;rw[c.out];go_enter func67,ntmps67
  go_wp2_with fail
  go_ret2;exact⟨rfl,Below.refl _ _⟩
 ·rw[a]at p;have U:=B.cell 9 _ rfl;obtain⟨D,q,d,g⟩:=E.look key;cases hw:qe7 s.ws key with
  |none=>
   have i:qdo s.ws key=⟨0,⟨#[]⟩,false⟩:=by unfold qdo;rw[hw];rfl
   rw[hw]at d;rw[i]at g;clear i;have F:Hid _:=d;have H:Hid _:=g;obtain⟨⟨⟨I,J,K,L,r,M⟩,V⟩,N⟩:∃x,qer S key s.s0 s.s1 s.s2 s.s3=x:=⟨_,rfl⟩
   have c:Hid (qc0 S s key=(r,V)):=by show _=_;unfold qc0;rw[a,hw,N];rfl
   have j:=boxed (Below.refl _ w) (.cells #[.int .i64 0,.string ⟨#[]⟩,.bool false] 34);have O:=qv0 key s.s0 s.s1 s.s2 s.s3 _ (T.out.1.later j) T.out.2;rw[N]at O;have y:=HB.out.later j;have y5:=y.cell 5 _ rfl;have y6:=y.cell 6 _ rfl;have y7:=y.cell 7 _ rfl;have y8:=y.cell 8 _ rfl;clear n o a B m E d g hw N;rw[c.out];go_enter func67,ntmps67
   go_wp2_with (at_lookup;refine qdx _ rfl _ _ rfl (u:=.agg #[.int .i64 0,.string ⟨#[]⟩,.bool false]) rfl q rfl R.out F.out H.out ?_)
   refine O.mono ?_;rintro e w3 ⟨rfl,P⟩;rw[show qah ((⟨I,J,K,L,r,M⟩,V):Ver×Int).1=[.int .i64 I,.int .i64 J,.int .i64 K,.int .i64 L,.string r,.bool M]from rfl];have hb4:=boxed (qac j P) (.cells #[.int .i64 I,.int .i64 J,.int .i64 K,.int .i64 L,.string r,.bool M] 130);clear y5 y6 y7 y8 O p U q
   go_wp2_with fail
   go_ret2;exact⟨rfl,hb4⟩
  |some x=>
   obtain⟨xk,xd,xg⟩:=x
   have i:qdo s.ws key=⟨xk,xd,xg⟩:=by unfold qdo;rw[hw];rfl
   rw[hw]at d;rw[i]at g;clear i;have F:Hid _:=d;have H:Hid _:=g
   have c:Hid (qc0 S s key=(q5v ⟨xk,xd,xg⟩,q5s ⟨xk,xd,xg⟩)):=by show _=_;unfold qc0 q5v q5s;rw[a,hw];cases xg<;>rfl
   have z:=qtb ⟨xk,xd,xg⟩ (w.alloc (.cells #[.int .i64 xk,.string xd,.bool xg] 34));have j:=boxed (Below.refl _ w) (.cells #[.int .i64 xk,.string xd,.bool xg] 34);obtain⟨W,X⟩:∃W,q5v ⟨xk,xd,xg⟩=W:=⟨_,rfl⟩;obtain⟨Y,Z⟩:∃Y,q5s ⟨xk,xd,xg⟩=Y:=⟨_,rfl⟩;rw[X,Z]at z c;rw[show wrV ⟨xk,xd,xg⟩=.agg #[.int .i64 xk,.string xd,.bool xg]from rfl]at z;clear n o a B m E d g hw X Z;rw[c.out];go_enter func67,ntmps67
   go_wp2_with (at_lookup;refine qdx _ rfl _ _ rfl (u:=.agg #[.int .i64 xk,.string xd,.bool xg]) rfl q rfl R.out F.out H.out ?_)
   refine z.mono ?_;rintro e w3 ⟨rfl,P⟩;clear p U q z
   go_wp2_with fail
   go_ret2;exact⟨rfl,qac j P⟩
theorem qti (key:Int) (m:(Lit.int .i64 key).wf=true) (w:World) (B:qag w b (qbw s (.map (some bm)))) (i:qjl w bm s.ws) (j:decide (qe7 s.ws key=none/\5<=(qbs s.ws).length)=!v):
 Calls prog 106 #[.pointer (some ⟨b,0,none⟩),.int .i64 key] w λe w'=>e=.returned (.bool v)/\Below w.heap.size w w':=by
 have p:Hid (keyOf prog 3 (.int .i64 key)=some (.int .i64 key)):=q0a m;have y:=B.cell 9 _ rfl;obtain⟨D,q,a,c⟩:=i.look key;cases hw:qe7 s.ws key with
 |none=>
  have d:qdo s.ws key=⟨0,⟨#[]⟩,false⟩:=by unfold qdo;rw[hw];rfl
  rw[hw]at a;rw[d]at c;clear d;have n:Hid _:=a;have o:Hid _:=c;have g:=boxed (Below.refl _ w) (.cells #[.int .i64 0,.string ⟨#[]⟩,.bool false] 34);have z:=(i.later g).len;have C:=(B.later g).cell 9 _ rfl
  have e:decide (((qbs s.ws).length:Int)<5)=v:=by
   cases v
   ·have:=of_decide_eq_true j;exact decide_eq_false (by omega)
   ·have:=of_decide_eq_false j;refine decide_eq_true ?_;have E:¬5<=(qbs s.ws).length:=λh=>this ⟨hw,h⟩;omega
  clear B i a c j m hw;go_enter func106,ntmps106
  go_wp2_with (at_lookup;refine qdx _ rfl _ _ rfl (u:=.agg #[.int .i64 0,.string ⟨#[]⟩,.bool false]) rfl q rfl p.out n.out o.out ?_)
  go_ret;refine⟨?_,g⟩
  first|rfl|(simp[e])|(rw[e])
 |some x=>
  obtain⟨xk,xd,xg⟩:=x
  have d:qdo s.ws key=⟨xk,xd,xg⟩:=by unfold qdo;rw[hw];rfl
  rw[hw]at a;rw[d]at c;clear d;have n:Hid _:=a;have o:Hid _:=c;have g:=boxed (Below.refl _ w) (.cells #[.int .i64 xk,.string xd,.bool xg] 34)
  have r:v=true:=by cases v<;>simp_all
  subst r;clear B i a c j m hw;go_enter func106,ntmps106
  go_wp2_with (at_lookup;refine qdx _ rfl _ _ rfl (u:=.agg #[.int .i64 xk,.string xd,.bool xg]) rfl q rfl p.out n.out o.out ?_)
  go_ret;exact⟨rfl,g⟩
theorem qvt (w:World) (B:qag w b (qbw s (.map (some bm)))) (E:qjl w bm s.ws):
 Calls prog 110 #[.pointer (some ⟨b,0,none⟩)] w λe w'=>∃v,e=.returned v/\w'.ownsRow w.heap.size 34 3 v (qbs s.ws).length (qf4 (qbs s.ws))/\Below w.heap.size w w':=by
 have F:Hid (qag w b (qbw s (.map (some bm)))/\qjl w bm s.ws):=⟨B,E⟩;clear B E;obtain⟨K,L,M,N,O⟩:=info_parts qmx;go_enter func110,ntmps110
 go_wp2_with fail
 go_loopw [3,7] (λP iv wr=>∃(k:Nat) (z:Int),k<=8/\z=k/\iv=.int .i64 z/\wr.ownsRow w.heap.size 34 3 P (qdi s.ws k).length (qf4 (qdi s.ws k))/\Below w.heap.size w wr) (λ_ i _=>8-(intOf i).toNat)
 case atStart=>exact⟨0,0,by omega,rfl,rfl,World.ownsRow_nil _ _ _ _,Below.refl _ _⟩
 case round=>
  obtain⟨k,z,hk,d,rfl,own,hb⟩:=hrel;have m:Hid _:=d;have hal:=qj5 s.ws k;have k9:=(F.out.1.later hb).cell 9 _ rfl;by_cases hlt:k<8
  ·have Q:z<8:=by omega
   have h0:0<=z:=by omega
   have G:Hid (keyOf prog 3 (.int .i64 z)=some (.int .i64 z)):=q25 ⟨by omega,by omega⟩;obtain⟨D,H,a,c⟩:=(F.out.2.later hb).look z;have n:Hid (qdi s.ws (k+1)=qdi s.ws k++(match qe7 s.ws (k:Int)with|some x=>[x]|none=>[])):=qib s.ws k;rw[d]at a c;cases ho:qe7 s.ws (k:Int)with
   |none=>
    have g:qdo s.ws (k:Int)=⟨0,⟨#[]⟩,false⟩:=by unfold qdo;rw[ho];rfl
    have q:Hid (qdi s.ws (k+1)=qdi s.ws k):=by show _=_;rw[n.out,ho];simp
    rw[ho]at a;rw[g]at c;rw[<-d]at a c;have r:Hid _:=a;have y:Hid _:=c;have R:=own.alloc (.cells #[.int .i64 0,.string ⟨#[]⟩,.bool false] 34);have S:=boxed hb (.cells #[.int .i64 0,.string ⟨#[]⟩,.bool false] 34);clear d ho g n a c own hb
    go_wp2_with (at_lookup;refine qdx _ rfl _ _ rfl (u:=.agg #[.int .i64 0,.string ⟨#[]⟩,.bool false]) rfl H rfl G.out r.out y.out ?_)
    go_roundw
    case rel=>exact⟨k+1,z+1,by omega,by have:=m.out;omega,by go_num,by rw[q.out];exact R,S⟩
    case measure=>simp[intOf];have:=m.out;omega
   |some x=>
    obtain⟨xk,xd,xg⟩:=x
    have g:qdo s.ws (k:Int)=⟨xk,xd,xg⟩:=by unfold qdo;rw[ho];rfl
    have q:Hid (qdi s.ws (k+1)=qdi s.ws k++[⟨xk,xd,xg⟩]):=by show _=_;rw[n.out,ho]
    rw[ho]at a;rw[g]at c;rw[<-d]at a c;have r:Hid _:=a;have y:Hid _:=c;have o:=own.alloc (.cells #[.int .i64 xk,.string xd,.bool xg] 34);have h:=qag.new (w:=wr) (T:=34) [.int .i64 xk,.string xd,.bool xg] rfl;change qag (wr.alloc (.cells #[.int .i64 xk,.string xd,.bool xg] 34)) wr.heap.size [.int .i64 xk,.string xd,.bool xg]at h;have p:=boxed hb (.cells #[.int .i64 xk,.string xd,.bool xg] 34);obtain⟨W1,I⟩:∃W1,wr.alloc (.cells #[.int .i64 xk,.string xd,.bool xg] 34)=W1:=⟨_,rfl⟩;rw[I]at o h p;have y0:=h.cell 0 _ rfl;have y1:=h.cell 1 _ rfl;have y2:=h.cell 2 _ rfl;clear own hb d ho g n a c;obtain⟨U,V,rfl,C⟩:=qcw o;have hcl:=C.len;have hcc:=C.cap;clear C
    go_wp2_with (first|(at_lookup;refine qdx _ rfl _ _ rfl (u:=.agg #[.int .i64 xk,.string xd,.bool xg]) rfl H rfl G.out r.out y.out ?_)|(rw[I])|(at_builtin;refine wpList_append_lies _ rfl (.tmp 20) (.tmp 22) 65 rfl w.heap.size 34 K (.agg #[.int .i64 0,.string ⟨#[]⟩,.bool false]) 3 32 underlying65 L M N O rfl (by decide) (.slice U (qdi s.ws k).length V) (qdi s.ws k).length (qf4 (qdi s.ws k)) rfl (o.alloc _) ⟨W1.heap.size,0,none⟩ 1 1 (wrC ⟨xk,xd,xg⟩) rfl rfl (World.news_of_block (heap_alloc_new W1 (.cells #[.int .i64 xk,.string xd,.bool xg] 34))) (by intro u J;simp[wrC]at J;rcases J with rfl|rfl|rfl<;>rfl) (by decide) (by simp only[maxLen];omega) (by omega) (by have:=p.size;simp;omega) _ rfl ?_;intro g9 cap9 W X Y egE ltE))
    have Z:Below w.heap.size w W:=(boxed p (.cells #[.int .i64 xk,.string xd,.bool xg] 34)).grown Y (by have:=p.size;simp;omega) (λj hj=>by have:=(o.lt _ hj).1;omega)
    go_roundw
    case rel=>exact⟨k+1,z+1,by omega,by have:=m.out;omega,by go_num,by rw[q.out,qkf,List.length_append];exact X,Z⟩
    case measure=>simp[intOf];have:=m.out;omega
  ·have Q:¬z<8:=by omega
   have hkk:k=8:=by omega
   subst hkk
   go_wp2_with fail
   go_ret;exact⟨_,rfl,own,hb⟩
end
section
open Tryz Go.Maps
variable {b:Nat} {G:Nat->Prop} {s:qbp}
theorem qz5 {w a w2:World} {bm:Nat} {x:Wr} (c:∀k,G k↔(k=b\/k=bm)) (f:bm≠b) (g:s.opn=true) (hb:Below w.heap.size w a) (B:qag a b (qbw s (.map (some bm)))) (h:qjl w2 bm (s.ws++[x])) (gr:a.grownBy w2 (some bm)):qh4 w b G {s with ws:=s.ws++[x]} w2:=by
 refine⟨G,⟨.map (some bm),B.grown gr (λe=>f (by injection e with e;exact e.symm)),.inr ⟨g,bm,rfl,f,h,c⟩⟩,λk i=>.inl i,?_⟩;exact(qae.ofBelow hb).trans (qae.grown gr (λk e=>(c k).2 (.inr (by injection e with e;exact e.symm))))
variable {d:ByteArray}
theorem qvm (h:d.toList.isEmpty=false):d.size≠0:=λe=>by
 rw[qgz]at h;have:=qbb d;rw[e]at this;rw[List.length_eq_zero_iff.1 this]at h;cases h
theorem qta (h:d.toList.isEmpty=true):d.size=0:=by
 rw[qgz,List.isEmpty_iff]at h;rw[<-qbb,h];rfl
theorem quv (x:Wr) (w:World) (h:PSe w b G s):
 Calls prog 75 #[.pointer (some ⟨b,0,none⟩),wrV x] w λe w'=>e=.returned (qa9 (qfi s x))/\qh4 w b G (qk2 s x) w':=by
 have NO:∀X ev,qfi s x=ev->ev≠0->Below w.heap.size w X->Hid ((.returned (qa9 ev):Ending)=.returned (qa9 (qfi s x))/\qh4 w b G (qk2 s x) X):=λX ev R Y e3=>by
  show _/\_;rw[R,show qk2 s x=s by unfold qk2;rw[if_neg (by rw[R];exact Y)]];exact⟨rfl,qh4.same h e3⟩
 obtain⟨xk,xd,xg⟩:=x;obtain⟨mv,o,hm⟩:=h;have hb:=boxed (Below.refl _ w) (.cells #[.int .i64 xk,.string xd,.bool xg] 34);have n:=qag.new (w:=w) (T:=34) [.int .i64 xk,.string xd,.bool xg] rfl;change qag (w.alloc (.cells #[.int .i64 xk,.string xd,.bool xg] 34)) w.heap.size [.int .i64 xk,.string xd,.bool xg]at n;have B:=o.later hb;have j:Hid _:=NO;clear NO;show Calls prog 75 #[.pointer (some ⟨b,0,none⟩),.agg #[.int .i64 xk,.string xd,.bool xg]] w _;have L:=B.cell 4 _ rfl;rcases hm with ⟨l,rfl,_,_⟩|⟨l,bm,rfl,y,q,z⟩
 ·rw[l]at L
  have E:qfi s ⟨xk,xd,xg⟩=6:=by unfold qfi;rw[if_pos l]
  have i:=(j.out _ 6 E (by decide) hb).out;clear E l B o n j;go_enter func75,ntmps75
  go_wp2_with fail
  go_ret;exact i
 ·rw[l]at L
  have n1:¬s.opn=false:=by rw[l];decide
  by_cases hk0:xk<0
  ·have E:qfi s ⟨xk,xd,xg⟩=2:=by unfold qfi;rw[if_neg n1,if_pos (.inl hk0)]
   have i:=(j.out _ 2 E (by decide) hb).out;clear E l B o n j n1 q z y;go_enter func75,ntmps75
   go_wp2_with fail
   go_ret;exact i
  ·by_cases hk8:8<=xk
   ·have E:qfi s ⟨xk,xd,xg⟩=2:=by unfold qfi;rw[if_neg n1,if_pos (.inr hk8)]
    have i:=(j.out _ 2 E (by decide) hb).out;clear E l B o n j n1 q z y;go_enter func75,ntmps75
    go_wp2_with fail
    go_ret;exact i
   ·have r:¬(xk<0\/8<=xk):=by omega
    by_cases hlen:12<(xd.size:Int)
    ·have E:qfi s ⟨xk,xd,xg⟩=4:=by unfold qfi;rw[if_neg n1,if_neg r,if_pos (by show 12<xd.size;omega)]
     have i:=(j.out _ 4 E (by decide) hb).out;clear E l B o n j n1 r q z y;go_enter func75,ntmps75
     go_wp2_with fail
     go_ret;exact i
    ·have J:¬12<xd.size:=by omega
     have S:∀g:Bool,xg=g->(g=false\/xd.toList.isEmpty=true)->Hid (¬(xg=true/\xd.size≠0)):=λg e h=>by
        show ¬_;rintro ⟨R,Y⟩;rcases h with h|h
        ·rw[R]at e;rw[<-e]at h;cases h
        ·exact Y (qta h)
     have M:Hid (∀{v:Bool},decide (qe7 s.ws xk=none/\5<=(qbs s.ws).length)=!v->Calls prog 106 #[.pointer (some ⟨b,0,none⟩),.int .i64 xk] (w.alloc (.cells #[.int .i64 xk,.string xd,.bool xg] 34)) λe w'=>e=.returned (.bool v)/\Below (w.alloc (.cells #[.int .i64 xk,.string xd,.bool xg] 34)).heap.size (w.alloc (.cells #[.int .i64 xk,.string xd,.bool xg] 34)) w'):=λu=>qti xk (q5x ⟨by omega,by omega⟩) _ B (q.later hb) u;have Z:Hid (keyOf prog 3 (.int .i64 xk)=some (.int .i64 xk)):=q25 ⟨by omega,by omega⟩;have c:Hid (qag w b (qbw s (.map (some bm)))/\qjl w bm s.ws/\bm≠b/\(∀k,G k↔(k=b\/k=bm))/\s.opn=true/\¬s.opn=false/\¬(xk<0\/8<=xk)/\¬12<xd.size/\0<=xk/\xk<8):=⟨o,q,y,z,l,n1,r,J,by omega,by omega⟩;cases hgg:(xg&&!xd.toList.isEmpty)
     ·have U:Hid (¬(xg=true/\xd.size≠0)):=by
       cases xg
       ·exact S false rfl (.inl rfl)
       ·exact S true rfl (.inr (by simpa using hgg))
      clear S;cases u:decide (qe7 s.ws xk=none/\5<=(qbs s.ws).length)
      ·have V:=M.out (v:=true) (by rw[u];rfl)
       have W:Hid (qfi s ⟨xk,xd,xg⟩=0):=by
           show _=_;unfold qfi;rw[if_neg c.out.2.2.2.2.2.1,if_neg c.out.2.2.2.2.2.2.1,if_neg c.out.2.2.2.2.2.2.2.1,if_neg U.out,if_neg (of_decide_eq_false u)]
       clear B o l n1 r J q z y u U M j;have HRX:Hid _:=n;have GO:Hid (∀a,Below (w.alloc (.cells #[.int .i64 xk,.string xd,.bool xg] 34)).heap.size (w.alloc (.cells #[.int .i64 xk,.string xd,.bool xg] 34)) a->qag a b (qbw s (.map (some bm)))/\qjl a bm s.ws/\qag a w.heap.size [.int .i64 xk,.string xd,.bool xg]/\Below w.heap.size w a):=λa K=>⟨(c.out.1.later hb).later K,(c.out.2.1.later hb).later K,HRX.out.later K,qac hb K⟩;cases xg
       ·clear hgg n;go_enter func75,ntmps75
        go_wp2_with fail
        refine V.mono ?_;rintro e a ⟨rfl,C⟩;obtain⟨F,M5,p,hbw⟩:=GO.out a C;obtain⟨N,D,H,O⟩:=M5;have I:Hid ((∀x∈s.ws,0<=x.key/\x.key<8)/\a.ownsMap prog 3 qe8 bm (qbs s.ws).length D/\qnt D s.ws):=⟨N,H,O⟩;have P:a.drew.ownsMap prog 3 qe8 bm (qbs s.ws).length D:=H;have HB5:Hid _:=F;have HL8:Hid ((qbs s.ws).length<=8):=qj5 s.ws 8;obtain⟨w7,hrun,Q,turn7⟩:=P.store qug underlying134 (by have:=HL8.out;simp only[maxLen];omega) Z.out (val:=.agg #[.int .i64 xk,.string xd,.bool false]) (d:=.held (.agg #[.int .i64 xk,.string xd,.bool false])) (ps:=[]) rfl;clear L N O H C
        go_wp2_with fail
        have k9:=F.cell 9 _ rfl;have x0:=p.cell 0 _ rfl;have x1:=p.cell 1 _ rfl;have x2:=p.cell 2 _ rfl
        go_region
        all_goals
            have M7:=qjl.put I.out.1 I.out.2.1 I.out.2.2 (x:=⟨xk,xd,false⟩) c.out.2.2.2.2.2.2.2.2.1 c.out.2.2.2.2.2.2.2.2.2 Q;have m:=turn7.grown;have gr:a.grownBy w7 (some bm):=⟨m.os,m.tape,m.output,m.size,m.block⟩;have i:=qz5 c.out.2.2.2.1 c.out.2.2.1 c.out.2.2.2.2.1 hbw HB5.out M7 gr;clear F p k9 x0 x1 x2 P Q hrun
            go_wp2_with fail
            go_ret;refine⟨by rw[W.out];rfl,?_⟩;rw[show qk2 s ⟨xk,xd,false⟩={s with ws:=s.ws++[⟨xk,xd,false⟩]} by unfold qk2;rw[if_pos W.out]];exact i
       ·have hee:xd.toList.isEmpty=true:=by simpa using hgg
        clear hgg n;go_enter func75,ntmps75
        go_wp2_with fail
        refine V.mono ?_;rintro e a ⟨rfl,C⟩;obtain⟨F,M5,p,hbw⟩:=GO.out a C;obtain⟨N,D,H,O⟩:=M5;have I:Hid ((∀x∈s.ws,0<=x.key/\x.key<8)/\a.ownsMap prog 3 qe8 bm (qbs s.ws).length D/\qnt D s.ws):=⟨N,H,O⟩;have P:a.drew.ownsMap prog 3 qe8 bm (qbs s.ws).length D:=H;have HB5:Hid _:=F;have HL8:Hid ((qbs s.ws).length<=8):=qj5 s.ws 8;obtain⟨w7,hrun,Q,turn7⟩:=P.store qug underlying134 (by have:=HL8.out;simp only[maxLen];omega) Z.out (val:=.agg #[.int .i64 xk,.string xd,.bool true]) (d:=.held (.agg #[.int .i64 xk,.string xd,.bool true])) (ps:=[]) rfl;clear L N O H C
        go_wp2_with fail
        have k9:=F.cell 9 _ rfl;have x0:=p.cell 0 _ rfl;have x1:=p.cell 1 _ rfl;have x2:=p.cell 2 _ rfl
        go_region
        all_goals
            have M7:=qjl.put I.out.1 I.out.2.1 I.out.2.2 (x:=⟨xk,xd,true⟩) c.out.2.2.2.2.2.2.2.2.1 c.out.2.2.2.2.2.2.2.2.2 Q;have m:=turn7.grown;have gr:a.grownBy w7 (some bm):=⟨m.os,m.tape,m.output,m.size,m.block⟩;have i:=qz5 c.out.2.2.2.1 c.out.2.2.1 c.out.2.2.2.2.1 hbw HB5.out M7 gr;clear F p k9 x0 x1 x2 P Q hrun
            go_wp2_with fail
            go_ret;refine⟨by rw[W.out];rfl,?_⟩;rw[show qk2 s ⟨xk,xd,true⟩={s with ws:=s.ws++[⟨xk,xd,true⟩]} by unfold qk2;rw[if_pos W.out]];exact i
      ·have V:=M.out (v:=false) (by rw[u];rfl)
       have E:qfi s ⟨xk,xd,xg⟩=12:=by unfold qfi;rw[if_neg n1,if_neg r,if_neg J,if_neg U.out,if_pos (of_decide_eq_true u)]
       have i:Hid (∀a,Below (w.alloc (.cells #[.int .i64 xk,.string xd,.bool xg] 34)).heap.size (w.alloc (.cells #[.int .i64 xk,.string xd,.bool xg] 34)) a->(.returned (qa9 12):Ending)=.returned (qa9 (qfi s ⟨xk,xd,xg⟩))/\qh4 w b G (qk2 s ⟨xk,xd,xg⟩) a):=λa K=>(j.out _ 12 E (by decide) (qac hb K)).out;clear E B o l n1 r J q z y u U M j;cases xg
       all_goals
           (try have hee:xd.toList.isEmpty=true:=by simpa using hgg)
           clear hgg;go_enter func75,ntmps75
           go_wp2_with fail
           refine V.mono ?_;rintro e a ⟨rfl,C⟩;clear L n
           go_wp2_with fail
           go_ret;exact i.out a C
     ·simp only[Bool.and_eq_true,Bool.not_eq_true']at hgg;obtain⟨rfl,hee⟩:=hgg
      have E:qfi s ⟨xk,xd,true⟩=1:=by unfold qfi;rw[if_neg n1,if_neg r,if_neg J,if_pos ⟨rfl,qvm hee⟩]
      have i:=(j.out _ 1 E (by decide) hb).out;clear E l B o n j n1 r J q z y S M c Z;go_enter func75,ntmps75
      go_wp2_with fail
      go_ret;exact i
end
section
def qkh (w:World) (b:Nat) (wv:Value) (s':qbp) (w':World):Prop:=
 ∃wv',qla w' b wv' s'/\(∀k,wv'.ownBlock=some k->wv.ownBlock=some k\/w.heap.size<=k)/\qae (λk=>k=b\/wv.ownBlock=some k) w w'
variable {w w':World} {b:Nat} {wv:Value} {s:qbp}
theorem qkh.same (h:qla w b wv s) (hb:Below w.heap.size w w'):qkh w b wv s w':=⟨wv,h.later hb,λ_ e=>.inl e,qae.ofBelow hb⟩
theorem quj {a:World} {c:qbp} (hb:Below w.heap.size w a) (f:∀k,k≠b->w'.heap[k]?=a.heap[k]?) (g:w'.os=a.os) (h:w'.tape=a.tape) (i:w'.output=a.output) (j:a.heap.size<=w'.heap.size) (l:qag w' b (qbl c (.slice none 0 0))) (d:c.ws=[]):qkh w b wv c w':=by
 refine⟨.slice none 0 0,⟨l,by rw[d];exact World.ownsRow_nil _ _ _ _,by simp[Value.ownBlock]⟩,λk e=>by simp[Value.ownBlock]at e,⟨g.trans hb.os,h.trans hb.tape,i.trans hb.output,Nat.le_trans hb.size j,λk m d=>?_⟩⟩;have n:k≠b:=λe=>d (.inl e);exact(f k n).trans (hb.block k m)
theorem q4g {w2:World} {c:Value} (hb:Below w.heap.size w w2) (B:qag w2 b (qbl s c)) (a0 a1 a2 a3:Int):
 qkh w b wv {s with opn:=true,s0:=a0,s1:=a1,s2:=a2,s3:=a3,ws:=[]} ((((((w2.setCell ⟨b,8,none⟩ (.bool true)).setCell ⟨b,4,none⟩ (.int .i64 a0)).setCell ⟨b,5,none⟩ (.int .i64 a1)).setCell ⟨b,6,none⟩ (.int .i64 a2)).setCell ⟨b,7,none⟩ (.int .i64 a3)).setCell ⟨b,9,none⟩ (.slice none 0 0)):=by
 have d:=B.set 8 (.bool true) (by simp[qbl]);have e:=d.set 4 (.int .i64 a0) (by simp[qbl]);have f:=e.set 5 (.int .i64 a1) (by simp[qbl]);have g:=f.set 6 (.int .i64 a2) (by simp[qbl]);have h:=g.set 7 (.int .i64 a3) (by simp[qbl]);have i:=h.set 9 (.slice none 0 0) (by simp[qbl]);refine quj hb (λk a=>?_) ?_ ?_ ?_ ?_ i rfl
 ·rw[Below.heap_setCell _ _ _ _ a,Below.heap_setCell _ _ _ _ a,Below.heap_setCell _ _ _ _ a,Below.heap_setCell _ _ _ _ a,Below.heap_setCell _ _ _ _ a,Below.heap_setCell _ _ _ _ a]
 ·simp only[World.setCell]
 ·simp only[World.setCell]
 ·simp only[World.setCell]
 ·simp only[World.setCell,Array.size_modify,Nat.le_refl]
end
section
def qg9 (b:Nat) (S:qaf) (Y:Nat->Prop):qm0:=⟨λw G=>PS w b G S/\∀k,Y k->¬G k,λ_ _ h=>h.1.lt,λ_ _ _ h a c=>⟨h.1.kept a c,h.2⟩⟩
def qye (w:World) (b bx:Nat) (G Gx:Nat->Prop) (S:qaf) (s:qbp) (now:Int) (e:Ending) (w':World):Prop:=
 ∃m:TxM,e=.returned (.tuple #[txV m,qa9 (qe9 S s now)])/\m.t=qem S s now/\Hid (qat w' m.wa m.wc m.t.ws/\qin (qpn b (qbf S s now)) (qg9 bx (qd9 S s now) m.blk) w G Gx m.blk w')
section
variable {p:qm0} {w w':World} {G Gx Y Z:Nat->Prop} {bx:Nat} {S:qaf}
theorem qst (h:qin p (qhw bx S) w G Gx Z w') (b:∀k,¬Y k):qin p (qg9 bx S Y) w G Gx Y w':=by
 obtain⟨c,d,p1,e,p2,f,g,_,i⟩:=h;exact⟨c,d,p1,⟨e,λk a=>absurd a (b k)⟩,p2,f,g,λk a=>absurd a (b k),i⟩
theorem q3m (h:qin p (qg9 bx S Y) w G Gx Z w'):qin p (qhw bx S) w G Gx NoY w':=by
 obtain⟨a,b,p1,c,p2,d,e,_,f⟩:=h;exact⟨a,b,p1,c.1,p2,d,e,λk g=>g.elim,f⟩
end
end
section
variable {w w':World} {G:Nat->Prop}
section
variable {p q:qm0} {w wA wB wC wD wF:World} {G Gx Y N:Nat->Prop}
theorem qzc (i:∀k,G k->k<w.heap.size) (j:∀k,G k->¬Gx k) (a:Below w.heap.size w wA) (l:∀k,N k->w.heap.size<=k/\k<wA.heap.size) (m:qvh q wA Gx wB) (d:qae N wB wC):(∀k,G k->wC.heap[k]?=w.heap[k]?)/\w.heap.size<=wC.heap.size:=by
 obtain⟨o,r,t,c⟩:=m;refine⟨λk f=>?_,Nat.le_trans a.size (Nat.le_trans c.size d.size)⟩;have g:=i k f;have h:k<wA.heap.size:=Nat.lt_of_lt_of_le g a.size;exact(d.block k (Nat.lt_of_lt_of_le h c.size) (λe=>by have:=(l k e).1;omega)).trans ((c.block k h (j k f)).trans (a.block k g))
theorem qjb (l:∀k,G k->k<w.heap.size) (E:∀k,Gx k->k<w.heap.size) (F:∀k,G k->¬Gx k) (g:Below w.heap.size w wA) (m:∀k,N k->w.heap.size<=k/\k<wA.heap.size) (H:qvh q wA Gx wB) (o:∀k,Y k->wA.heap.size<=k/\k<wB.heap.size)
 (d:qae N wB wC) (I:qvh p wC G wD) (c:qae N wD wF):qin p q w G Gx Y wF/\∀k,Y k->wF.heap[k]?=wB.heap[k]?:=by
 obtain⟨r,v,u,i⟩:=H;obtain⟨x,p1,ps,f⟩:=I;have P:=g.size;have Q:=i.size;have J:=d.size;have K:=f.size;have z:=c.size;have t:∀k,r k->k<wB.heap.size:=λk a=>q.lt _ _ v k a
 have A:∀k,r k->¬N k:=λk a e=>by
  have:=m k e;rcases u k a with h|h
  ·have:=E k h;omega
  ·omega
 have B:∀k,r k->¬G k:=λk a e=>by
  rcases u k a with h|h
  ·exact F k e h
  ·have:=l k e;omega
 have L:∀k,x k->¬N k:=λk a e=>by
  have:=m k e;rcases ps k a with h|h
  ·have:=l k h;omega
  ·omega
 refine⟨⟨x,r,?_,?_,λk a=>?_,λk a=>?_,λk a C=>?_,λk a=>⟨?_,?_,λe=>?_⟩,⟨?_,?_,?_,?_,λk a D=>?_⟩⟩,λk a=>?_⟩
 ·exact p.kept _ _ _ p1 (λk a=>c.block k (p.lt _ _ p1 k a) (L k a)) z
 ·have M:=q.kept _ _ _ v (λk a=>d.block k (t k a) (A k a)) J;have O:=q.kept _ _ _ M (λk a=>f.block k (by have:=t k a;omega) (B k a)) K;exact q.kept _ _ _ O (λk a=>c.block k (by have:=t k a;omega) (A k a)) z
 ·rcases ps k a with h|h
  ·exact .inl h
  ·exact .inr (by omega)
 ·rcases u k a with h|h
  ·exact .inl h
  ·exact .inr (by omega)
 ·rcases ps k a with h|h
  ·exact B k C h
  ·have:=t k C;omega
 ·have:=(o k a).1;omega
 ·have:=(o k a).2;omega
 ·have:=o k a;rcases ps k e with h|h
  ·have:=l k h;omega
  ·omega
 ·exact c.os.trans (f.os.trans (d.os.trans (i.os.trans g.os)))
 ·exact c.tape.trans (f.tape.trans (d.tape.trans (i.tape.trans g.tape)))
 ·exact c.output.trans (f.output.trans (d.output.trans (i.output.trans g.output)))
 ·omega
 ·have j:¬N k:=λe=>by have:=(m k e).1;omega
  exact(c.block k (by omega) j).trans ((f.block k (by omega) (λe=>D (.inl e))).trans ((d.block k (by omega) j).trans ((i.block k (by omega) (λe=>D (.inr e))).trans (g.block k a))))
 ·have y:=o k a
  have j:¬N k:=λe=>by have:=(m k e).2;omega
  exact(c.block k (by omega) j).trans ((f.block k (by omega) (λe=>by have:=l k e;omega)).trans (d.block k (by omega) j))
theorem qok {p q:qm0} {Gx:Nat->Prop} (c:p.is w G) (d:q.is w Gx) (e:∀k,G k->¬Gx k) (hb:Below w.heap.size w w') (Y:Nat->Prop) (f:∀k,¬Y k):qin p q w G Gx Y w':=
 ⟨G,Gx,p.kept _ _ _ c (λk a=>hb.block k (p.lt _ _ c k a)) hb.size,q.kept _ _ _ d (λk a=>hb.block k (q.lt _ _ d k a)) hb.size,λ_ a=>.inl a,λ_ a=>.inl a,e,λk a=>absurd a (f k),qae.ofBelow hb⟩
end
variable {b:Nat}
theorem qbz {F:Nat->Prop} {W:World} (h:qae F w W) (a:F b) (x0 x1 x2 x3 c d e f:Int) (v:Value):qae F w (qbg W b x0 x1 x2 x3 c d e f v):=
 ((((((((h.trans (qae.setCell _ _ _ a)).trans (qae.setCell _ _ _ a)).trans (qae.setCell _ _ _ a)).trans (qae.setCell _ _ _ a)).trans (qae.setCell _ _ _ a)).trans (qae.setCell _ _ _ a)).trans (qae.setCell _ _ _ a)).trans (qae.setCell _ _ _ a)).trans (qae.setCell _ _ _ a)
def qq1 (n:Nat) (x:Int) (s:qbp):qbp:={s with p0:=if n=0 then x else s.p0,p1:=if n=1 then x else s.p1,p2:=if n=2 then x else s.p2,p3:=if n=3 then x else s.p3}
variable {s:qbp} {wv:Value} {n:Int}
theorem q4q (c:0<=n) (d:n<=3):(qbl s wv)[n.toNat]?=some (.int .i64 (qao n s.p0 s.p1 s.p2 s.p3)):=by
 have a:n=0\/n=1\/n=2\/n=3:=by omega
 rcases a with rfl|rfl|rfl|rfl<;>rfl
theorem q2g {a:Value} (d:0<=n) (e:n<=3):(qbw s a)[n.toNat]?=some (.int .i64 (qao n s.p0 s.p1 s.p2 s.p3)):=by
 have c:n=0\/n=1\/n=2\/n=3:=by omega
 rcases c with rfl|rfl|rfl|rfl<;>rfl
theorem qku {site seq:Int} (c:0<=site) (d:site<=3):qks site seq s=qq1 site.toNat (qb1 (qao site s.p0 s.p1 s.p2 s.p3) seq) s:=by
 have a:site=0\/site=1\/site=2\/site=3:=by omega
 rcases a with rfl|rfl|rfl|rfl<;>rfl
theorem qvd {site seq:Int} (a:0<=site) (c:site<=3) (h:¬qao site s.p0 s.p1 s.p2 s.p3<seq):qks site seq s=s:=by
 have d:site=0\/site=1\/site=2\/site=3:=by omega
 rw[qku a c,qh0 h]
 rcases d with rfl|rfl|rfl|rfl<;>rfl
theorem qla.keptB (h:qla w b wv s) (a:∀k,(k=b\/wv.ownBlock=some k)->w'.heap[k]?=w.heap[k]?) (c:w.heap.size<=w'.heap.size):qla w' b wv s:=⟨h.box.kept (a b (.inl rfl)) c,qad h.row (λk e=>a k (.inr e)),h.nb⟩
variable {w1 w2:World}
theorem qkh.after (h:qkh w b wv s w1) (hb:Below w1.heap.size w1 w2):qkh w b wv s w2:=by
 obtain⟨a,c,d,e⟩:=h;exact⟨a,c.later hb,d,e.trans (qae.ofBelow hb)⟩
theorem qkh.past (h:qkh w b wv s w1) {n:Nat} (c:n<4) (x:Int):qkh w b wv (qq1 n x s) (w1.setCell ⟨b,n,none⟩ (.int .i64 x)):=by
 obtain⟨d,a,f,g⟩:=h;have R:=a.box.set n (.int .i64 x) (by simp[qbl];omega);refine⟨d,⟨?_,qad a.row (λk e=>Below.heap_setCell _ _ _ _ (λi=>a.nb (by have j:k=b:=i;rw[<-j];exact e))),a.nb⟩,f,g.trans (qae.setCell _ _ _ (.inl rfl))⟩
 match n,c with
 |0,_=>exact R
 |1,_=>exact R
 |2,_=>exact R
 |3,_=>exact R
theorem qh4.after (h:qh4 w b G s w1) (hb:Below w1.heap.size w1 w2):qh4 w b G s w2:=by
 obtain⟨a,c,d,e⟩:=h;exact⟨a,c.later hb,d,e.trans (qae.ofBelow hb)⟩
theorem qh4.past (a:G b) (h:qh4 w b G s w1) {n:Nat} (c:n<4) (x:Int):qh4 w b G (qq1 n x s) (w1.setCell ⟨b,n,none⟩ (.int .i64 x)):=by
 obtain⟨g,d,e,f⟩:=h;exact q2m d e a f n c x
theorem qmy (w:World):qat w tx0.wa tx0.wc tx0.t.ws:=⟨Nat.le_refl _,by decide,.inl rfl⟩
theorem qfy (k:Nat):¬tx0.blk k:=λh=>absurd rfl h.1
variable {S:qaf}
theorem qjx {now:Int} (d:s.opn=true) (a:(qbs s.ws).length≠0):
 qe9 S s now=qk9 S now s.s0 s.s1 s.s2 s.s3 (qbs s.ws)/\qem S s now=qna S now s.s0 s.s1 s.s2 s.s3 (qbs s.ws)/\qd9 S s now=qkq S now s.s0 s.s1 s.s2 s.s3 (qbs s.ws):=by
 have n1:¬s.opn=false:=by rw[d];decide
 have c:¬(s.opn=false\/(qbs s.ws).length=0):=by rintro (h|h);exact n1 h;exact a h
 exact⟨by unfold qe9;rw[if_neg n1,if_neg a],by unfold qem;rw[if_neg c],by unfold qd9;rw[if_neg c]⟩
theorem qmm {now:Int} (c:s.opn=true) (a:(qbs s.ws).length=0):
 qe9 S s now=0/\qem S s now=tx0.t/\qd9 S s now=S/\qbf S s now=qil s:=by
 have n1:¬s.opn=false:=by rw[c];decide
 have E:qe9 S s now=0:=by unfold qe9;rw[if_neg n1,if_pos a]
 exact⟨E,by unfold qem;rw[if_pos (.inr a)];rfl,by unfold qd9;rw[if_pos (.inr a)],by unfold qbf;rw[if_neg (by rw[E];decide),if_pos a]⟩
theorem qmh {now:Int} (a:s.opn=false):
 qe9 S s now=6/\qem S s now=tx0.t/\qd9 S s now=S/\qbf S s now=s:=by
 have E:qe9 S s now=6:=by unfold qe9;rw[if_pos a]
 exact⟨E,by unfold qem;rw[if_pos (.inl a)];rfl,by unfold qd9;rw[if_pos (.inl a)],by unfold qbf;rw[if_pos (by rw[E];decide)]⟩
theorem qox {now:Int} (c:s.opn=true) (d:(qbs s.ws).length≠0) (a:qk9 S now s.s0 s.s1 s.s2 s.s3 (qbs s.ws)≠0):qbf S s now=s/\qkq S now s.s0 s.s1 s.s2 s.s3 (qbs s.ws)=S/\qna S now s.s0 s.s1 s.s2 s.s3 (qbs s.ws)=tx0.t:=by
 refine⟨by unfold qbf;rw[if_pos (by rw[(qjx c d).1];exact a)],by unfold qkq;rw[if_neg a],by unfold qna;rw[if_neg a];rfl⟩
theorem qqm {now:Int} (d:s.opn=true) (a:(qbs s.ws).length≠0) (c:qk9 S now s.s0 s.s1 s.s2 s.s3 (qbs s.ws)=0):qbf S s now=qks (qna S now s.s0 s.s1 s.s2 s.s3 (qbs s.ws)).site (qna S now s.s0 s.s1 s.s2 s.s3 (qbs s.ws)).seq (qil s)/\(qna S now s.s0 s.s1 s.s2 s.s3 (qbs s.ws)).site=S.id:=by
 have y:=qjx (S:=S) (now:=now) d a;refine⟨by unfold qbf;rw[if_neg (by rw[y.1,c];decide),if_neg a,y.2.1],by unfold qna;rw[if_pos c];rfl⟩
end
open Go.Value Go.IntKind
theorem q0z {b B:Nat} {F:Nat->Prop} {l:List Hd} (a0 a1 a2 a3:Int) (w:World) (N:qnf w b B F l) (hl:l.length<=1000) (O:qg7 l) (Q:∀h∈l,qdm h.v=true):
 Calls Tryz.prog 96 #[.pointer (some ⟨b,B,none⟩),.agg #[int i64 a0,int i64 a1,int i64 a2,int i64 a3]] w λe w'=>∃v,e=.returned v/\w'.ownsRow w.heap.size 9 1 v 8 (qfj a0 a1 a2 a3 l 8)/\Below w.heap.size w w':=by
 have g:=qag.new (w:=w) (T:=47) [int i64 a0,int i64 a1,int i64 a2,int i64 a3] rfl;have hb:=boxed (Below.refl _ w) (.cells #[int i64 a0,int i64 a1,int i64 a2,int i64 a3] 47);have R:Hid (qnf w b B F l):=N;have HA:Hid (qg7 l):=O;have S:Hid (∀h∈l,qdm h.v=true):=Q;clear N O Q;obtain⟨i0,U,V,W,X⟩:=info_parts qw8;obtain⟨C,D,E,G⟩:=run_make_full (P:=Tryz.prog) (w.alloc (.cells #[int i64 a0,int i64 a1,int i64 a2,int i64 a3] 47)) w.heap.size 48 9 i0 (.string ⟨#[]⟩) 1 Tryz.underlying48 U V W .i64 .i64 8 (by rw[X];decide) (by simp[maxLen]) (by simp)
 have hmk2:(Instr.makeSlice 48 (int i64 8) (int i64 8)).run Tryz.prog (w.alloc (.cells #[int i64 a0,int i64 a1,int i64 a2,int i64 a3] 47))=.ok (.slice (some ⟨w.heap.size+1,0,none⟩) 8 8) C:=by
  rw[World.size_alloc]at D;exact D
 have Y:C.ownsRow w.heap.size 9 1 (.slice (some ⟨w.heap.size+1,0,none⟩) 8 8) 8 (qrt a0 a1 a2 a3 l 0):=by
  rw[World.size_alloc,show (Value.string ⟨#[]⟩).cells=#[Value.string ⟨#[]⟩]from rfl,toList_madeCells_one]at E;exact E
 have Z:=g.grown G (by simp);have c:Below w.heap.size w C:=hb.grown G hb.size (λk e=>by cases e);clear D E g hb G U V W X;go_enter Tryz.func96,Tryz.ntmps96
 go_wp2_with fail
 clear hmk2
 go_loopw [12] (λiv wr=>∃(k:Nat) (z:Int),k<=8/\z=k/\iv=int i64 z/\wr.ownsRow w.heap.size 9 1 (.slice (some ⟨w.heap.size+1,0,none⟩) 8 8) 8 (qrt a0 a1 a2 a3 l k)/\qag wr w.heap.size [int i64 a0,int i64 a1,int i64 a2,int i64 a3]/\Below w.heap.size w wr) (λi _=>8-(intOf i).toNat)
 case atStart=>exact⟨0,0,by omega,rfl,rfl,Y,Z,c⟩
 case round=>
  clear Y Z c;obtain⟨k,z,hk,H,rfl,d,g,hb⟩:=hrel;have r:Hid (z=k):=H;by_cases aa:k<8
  ·have h1:z<8:=by omega
   have h3:0<=z:=by omega
   have h2:z.toNat=k:=by omega
   have S4:=R.out.kept (λj I=>hb.block j (R.out.lt j I)) hb.size;obtain⟨c0,c1,c2,c3⟩:=g.c4;clear H
   go_wp2_with fail
   refine(qqa z a0 a1 a2 a3 _ S4 hl HA.out S.out).mono ?_;rintro e w2 ⟨rfl,c⟩;clear c0 c1 c2 c3 S4;have J:=qn9 (key:=z) (a0:=a0) (a1:=a1) (a2:=a2) (a3:=a3) S.out
   have q:Hid (qhj a0 a1 a2 a3 l k=if (qdf z a0 a1 a2 a3 l).2=0 then (⟨#[61]⟩:ByteArray)++(qdf z a0 a1 a2 a3 l).1.data else ⟨#[]⟩):=by
        show qhj a0 a1 a2 a3 l k=_;rw[r.out];rfl
   obtain⟨⟨rv,K⟩,hrd⟩:∃x,qdf z a0 a1 a2 a3 l=x:=⟨_,rfl⟩;rw[hrd]at q J ⊢;simp only at q J ⊢;clear hrd;obtain⟨m,n,bs,o,a,p⟩:=rv;simp only at q J;rw[show qah ⟨m,n,bs,o,a,p⟩=[int i64 m,int i64 n,int i64 bs,int i64 o,.string a,.bool p]from rfl];replace g:=(g.later c).boxed (.cells #[int i64 m,int i64 n,int i64 bs,int i64 o,.string a,.bool p] 130);have ownk1:w2.ownsRow w.heap.size 9 1 (.slice (some ⟨w.heap.size+1,0,none⟩) 8 8) 8 (qrt a0 a1 a2 a3 l k):=d.kept (row:=none) ⟨c.os,c.tape,c.output,c.size,λj I _=>c.block j I⟩ (by simp[Value.ownBlock]);replace d:=ownk1.alloc (.cells #[int i64 m,int i64 n,int i64 bs,int i64 o,.string a,.bool p] 130);replace hb:=boxed (qac hb c) (.cells #[int i64 m,int i64 n,int i64 bs,int i64 o,.string a,.bool p] 130);have RB:=qag.new (w:=w2) (T:=130) [int i64 m,int i64 n,int i64 bs,int i64 o,.string a,.bool p] rfl;clear c ownk1;have d3:=RB.cell 4 _ rfl;clear RB;by_cases L:K=0
   ·subst L
    have M:Hid (qhj a0 a1 a2 a3 l k=(⟨#[61]⟩:ByteArray)++a):=by show qhj a0 a1 a2 a3 l k=_;rw[q.out,if_pos rfl]
    have ad:=λw=>q6b (P:=Tryz.prog) (⟨#[61]⟩:ByteArray) a (by have z:(⟨#[61]⟩:ByteArray).size=1:=rfl;omega) w;have ev:qa9 0=.nilIface:=rfl;rw[ev];have cc:=d.cellAt k (by omega);have cx:∃u,(qrt a0 a1 a2 a3 l k)[k]?=some u:=⟨_,List.getElem?_eq_getElem (by simp[qrt,qhm];omega)⟩;obtain⟨ux,hux⟩:=cx;rw[hux]at cc;have ff:=d.frozenAt k;have y:=d.stored k (.string ((⟨#[61]⟩:ByteArray)++a));have hbl:=g.lt;have RA9:=g.grown y.2 (by simp);have hb9:=hb.grown y.2 (by have:=hb.size;omega) (λj e=>by cases e;omega)
    have s:((w2.alloc (.cells #[int i64 m,int i64 n,int i64 bs,int i64 o,.string a,.bool p] 130)).setCell ⟨w.heap.size+1,k,none⟩ (.string ((⟨#[61]⟩:ByteArray)++a))).ownsRow w.heap.size 9 1 (.slice (some ⟨w.heap.size+1,0,none⟩) 8 8) 8 (qrt a0 a1 a2 a3 l (k+1)):=by
     rw[<-q1s aa,M.out];exact y.1
    clear q hux y d
    go_wp2_with fail
    go_roundw
    case rel=>exact⟨k+1,z+1,by omega,by have:=r.out;omega,by go_num,s,RA9,hb9⟩
    case measure=>simp[intOf];have:=r.out;omega
   ·have ev:qa9 K=.iface 29 (int i64 K):=by unfold qa9;rw[if_neg L]
    rw[ev]
    have M:Hid (qhj a0 a1 a2 a3 l k=⟨#[]⟩):=by show qhj a0 a1 a2 a3 l k=_;rw[q.out,if_neg L]
    have s:(w2.alloc (.cells #[int i64 m,int i64 n,int i64 bs,int i64 o,.string a,.bool p] 130)).ownsRow w.heap.size 9 1 (.slice (some ⟨w.heap.size+1,0,none⟩) 8 8) 8 (qrt a0 a1 a2 a3 l (k+1)):=by
     rw[<-qxt aa M.out];exact d
    clear q d ev
    go_wp2_with fail
    go_roundw
    case rel=>exact⟨k+1,z+1,by omega,by have:=r.out;omega,by go_num,s,g,hb⟩
    case measure=>simp[intOf];have:=r.out;omega
  ·obtain rfl:k=8:=by omega
   have h1:¬z<8:=by omega
   clear H
   have s:wr.ownsRow w.heap.size 9 1 (.slice (some ⟨w.heap.size+1,0,none⟩) 8 8) 8 (qfj a0 a1 a2 a3 l 8):=by
        have e:qrt a0 a1 a2 a3 l 8=qfj a0 a1 a2 a3 l 8:=by unfold qrt;simp
        rw[<-e];exact d
   clear d
   go_wp2_with fail
   go_ret;exact⟨_,rfl,s,hb⟩
end Go.Proofs.YtemiamjnhoeniaaGreatDoor
