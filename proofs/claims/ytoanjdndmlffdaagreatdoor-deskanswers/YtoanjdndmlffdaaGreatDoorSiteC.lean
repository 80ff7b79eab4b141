import Derived.Test.YtoanjdndmlffdaaGreatDoorPGo
import Derived.Test.YtoanjdndmlffdaaGreatDoorQRead
import Derived.Shelf.Strings.Split
set_option maxHeartbeats 16000000
set_option maxRecDepth 100000
namespace Go.Proofs.YtoanjdndmlffdaaGreatDoor
section
open Tryz Go.Value Go.IntKind Go.RowKit Go.Maps
def qa8 (S:qaf) (t:TxP):Int:=
 if okT t=false then 1 else if t.site=S.id then 1 else if t.seq<=qaq t.site S.a0 S.a1 S.a2 S.a3 then 9 else if S.waits.any (λx=>qcl x t)=true then 9 else if 200<=S.log.length then 12 else if 40<=S.waits.length/\qau S t=false then 12 else 0
def qb8 (S:qaf) (t:TxP) (S':qaf):Prop:=(qa8 S t≠0/\S'=S)\/(qa8 S t=0/\Goes {S with waits:=S.waits++[t]} S')
variable {S:qaf} {t:TxP}
theorem qb8.det {A B:qaf} (h:qb8 S t A) (k:qb8 S t B):A=B:=by
 rcases h with ⟨a,rfl⟩|⟨a,d⟩
 ·rcases k with ⟨_,rfl⟩|⟨c,_⟩
  ·rfl
  ·exact absurd c a
 ·rcases k with ⟨c,_⟩|⟨_,e⟩
  ·exact absurd a c
  ·exact d.det e
theorem qf9 (h:qa8 S t=0):okT t=true/\t.site≠S.id/\¬t.seq<=qaq t.site S.a0 S.a1 S.a2 S.a3/\(∀x∈S.waits,qcl x t=false)/\S.log.length<200:=by
 unfold qa8 at h;split at h
 ·cases h
 ·rename_i a;split at h
  ·cases h
  ·rename_i c;split at h
   ·cases h
   ·rename_i d;split at h
    ·cases h
    ·rename_i e;split at h
     ·cases h
     ·rename_i g;refine⟨by simpa using a,c,d,λx f=>?_,by omega⟩;cases hi:qcl x t with
      |false=>rfl
      |true=>exact absurd (List.any_eq_true.2 ⟨x,f,hi⟩) e
theorem qb8.inv {S':qaf} (h:qb8 S t S') (a:qcx S):qcx S':=by
 rcases h with ⟨_,rfl⟩|⟨c,d⟩
 ·exact a
 ·obtain⟨p1,p2,_,e,_⟩:=qf9 c;exact d.inv (a.wait p1 p2 e)
structure TkB (tb b bm:Nat) (ts:List Value) (w:World):Prop where
 t:qag w tb ts
 m:w.cell? ⟨b,8,none⟩=some (.map (some bm))
variable {m:TxM}
theorem q6o {l:List TxM} {L:List TxP} {v:Bool} (c:l.map (·.t)=L) (d:qtb l t.site t.seq m v):L.any (λx=>qcl x t)=v:=by
 cases v with
 |true=>
  obtain⟨a,f,g⟩:=d.yes rfl;rw[<-c];exact List.any_eq_true.2 ⟨m.t,List.mem_map.2 ⟨m,a,rfl⟩,qgm.2 ⟨f,g⟩⟩
 |false=>
  obtain⟨_,a⟩:=d.no rfl;rw[<-c,List.any_eq_false];intro x h;obtain⟨y,i,rfl⟩:=List.mem_map.1 h;exact λe=>a y i (qgm.1 e)
variable {b:Nat} {G:Nat->Prop}
theorem q9r {c g d:World} {lv:Value} {bm:Nat} {F:Nat->Prop} {log waits:List TxM} (l:qd0 c b lv bm F S log waits) (q:log.map (·.t)=S.log) (r:waits.map (·.t)=S.waits) (f:∀k,G k↔(qbb b lv bm F k\/∃m∈log++waits,m.blk k))
 (n:Below c.heap.size c g) (s:qaz g m.wa m.wc m.t.ws) (o:∀k,m.blk k->c.heap.size<=k) (u:qlg d bm (waits++[m])) (gr:g.grownBy d (some bm)):
 ∃p,PS d b p {S with waits:=S.waits++[m.t]}/\(∀k,p k->G k\/c.heap.size<=k)/\qae G c d:=by
 have v:=l.later n
 have w:qd0 d b lv bm F {S with waits:=S.waits++[m.t]} log (waits++[m]):=(v.turn gr u (λx h=>by
  rcases List.mem_append.1 h with a|a
  ·exact .inl a
  ·rw[List.mem_singleton.1 a];refine .inr ⟨s,λk e y=>?_⟩;have:=o k e;have:=l.lt k y
   omega)).waits _
 refine⟨_,⟨lv,bm,F,log,waits++[m],w,q,by rw[List.map_append,r];rfl,λk=>Iff.rfl⟩,λk z=>?_,?_⟩
 ·rcases z with a|⟨x,h,a⟩
  ·exact .inl ((f k).2 (.inl a))
  ·rcases List.mem_append.1 h with i|i
   ·exact .inl ((f k).2 (.inr ⟨x,List.mem_append.2 (.inl i),a⟩))
   ·rcases List.mem_append.1 i with j|j
    ·exact .inl ((f k).2 (.inr ⟨x,List.mem_append.2 (.inr j),a⟩))
    ·rw[List.mem_singleton.1 j]at a;exact .inr (o k a)
 ·exact(qae.ofBelow n).trans (qae.grown gr (λk e=>(f k).2 (.inl (.inr (.inr (.inl (by injection e with e;exact e.symm)))))))
theorem q35 (m:TxM) (w:World) (h:PS w b G S) (hI:qcx S) (hn:S.waits.length<=990) (hW:qaz w m.wa m.wc m.t.ws):
 Calls prog 210 #[.pointer (some ⟨b,0,none⟩),txV m] w λe w'=>e=.returned (qbq (qa8 S m.t))/\∃S',qb8 S m.t S'/\PPo w b G S' w':=by
 obtain⟨⟨site,seq,wall,count,d0,d1,d2,d3,ws⟩,a,cap⟩:=m;simp only at hW ⊢;have hb:=boxed (Below.refl _ w) (.cells #[int i64 site,int i64 seq,int i64 wall,int i64 count,int i64 d0,int i64 d1,int i64 d2,int i64 d3,.slice a ws.length cap] 102);have q:=qag.new (w:=w) (T:=102) [int i64 site,int i64 seq,int i64 wall,int i64 count,int i64 d0,int i64 d1,int i64 d2,int i64 d3,.slice a ws.length cap] rfl;change qag (w.alloc (.cells #[int i64 site,int i64 seq,int i64 wall,int i64 count,int i64 d0,int i64 d1,int i64 d2,int i64 d3,.slice a ws.length cap] 102)) w.heap.size [int i64 site,int i64 seq,int i64 wall,int i64 count,int i64 d0,int i64 d1,int i64 d2,int i64 d3,.slice a ws.length cap]at q;have hne:=Later.one;have P1:=h.later hb;have W1:=hW.later hb;have nG:¬G w.heap.size:=λe=>Nat.lt_irrefl _ (h.lt _ e)
 have X:∀c ev,qa8 S ⟨site,seq,wall,count,d0,d1,d2,d3,ws⟩=ev->ev≠0->Below w.heap.size w c->Hid ((.returned (qbq ev):Ending)=.returned (qbq (qa8 S ⟨site,seq,wall,count,d0,d1,d2,d3,ws⟩))/\∃S',qb8 S ⟨site,seq,wall,count,d0,d1,d2,d3,ws⟩ S'/\PPo w b G S' c):=λc ev e1 e2 e3=>by
  show _/\_;rw[e1];exact⟨rfl,S,.inl ⟨by rw[e1];exact e2,rfl⟩,PPo.same h e3⟩
 have GO0:Hid (∀c G9 S',(∀k,G9 k->G k\/w.heap.size<=k)->qae G w c->∀w10,PPo c b G9 S' w10->PPo w b G S' w10):=λc G9 S' s B w10 o=>PPo.trans s B o;clear h hW;show Calls prog 210 #[.pointer (some ⟨b,0,none⟩),.agg #[int i64 site,int i64 seq,int i64 wall,int i64 count,int i64 d0,int i64 d1,int i64 d2,int i64 d3,.slice a ws.length cap]] w _;obtain⟨lv,bm,F,log,waits,PM,hl,hw,hG⟩:=id P1;have k0:=Later.cell (PM.box.cell 0 _ rfl);have t0:=Later.cell (q.cell 0 _ rfl);have Y:=Later.cell (q.cell 1 _ rfl);have t2:=Later.cell (q.cell 2 _ rfl);have t3:=Later.cell (q.cell 3 _ rfl);have t4:=Later.cell (q.cell 4 _ rfl);have t5:=Later.cell (q.cell 5 _ rfl);have t6:=Later.cell (q.cell 6 _ rfl);have t7:=Later.cell (q.cell 7 _ rfl);have t8:=Later.cell (q.cell 8 _ rfl);cases hok:okT ⟨site,seq,wall,count,d0,d1,d2,d3,ws⟩
 ·have HK:Hid (qdf site seq wall count d0 d1 d2 d3 ws=false):=hok
  have E:qa8 S ⟨site,seq,wall,count,d0,d1,d2,d3,ws⟩=1:=by unfold qa8;rw[if_pos hok]
  have u:=λc z=>X c 1 E (by decide) z;clear E X hok PM hl hw hG P1 hI;go_enter func210,ntmps210
  go_wp2_with fail
  refine qaa (by kernel_rfl) (by kernel_rfl) ?_
  repeat (go_big_quiet_step (first|rfl|(go_at_call 252;with_reducible exact qac (qgf (W1.later (Later.below _)) HK.out))))
  refine wpQuiet_nil ?_;rintro w2 ⟨⟨_,C⟩,rfl⟩
  go_wp2_with fail
  go_ret;exact(u _ (qab hb C)).out
 ·have HK:Hid (qdf site seq wall count d0 d1 d2 d3 ws=true):=hok;obtain⟨⟨s0,s3⟩,⟨sq1,sq2⟩,sw⟩:=qei hok;simp only at s0 s3 sq1 sq2 sw;have H:Hid (okT ⟨site,seq,wall,count,d0,d1,d2,d3,ws⟩=true):=hok;clear hok;by_cases L:site=S.id
  ·have E:qa8 S ⟨site,seq,wall,count,d0,d1,d2,d3,ws⟩=1:=by unfold qa8;rw[if_neg (by rw[H.out];decide),if_pos L]
   have u:=λc z=>X c 1 E (by decide) z
   have i1:(site==S.id)=true:=by simp[L]
   have i2:decide (site=S.id)=true:=by simp[L]
   clear E X PM hl hw hG P1 hI L;go_enter func210,ntmps210
   go_wp2_with fail
   refine qaa (by kernel_rfl) (by kernel_rfl) ?_
   repeat (go_big_quiet_step (first|rfl|(go_at_call 252;with_reducible exact qac (qgf (W1.later (Later.below _)) HK.out))))
   refine wpQuiet_nil ?_;rintro w2 ⟨⟨_,C⟩,rfl⟩
   go_wp2_with fail
   go_ret;exact(u _ (qab hb C)).out
  ·have i1:(site==S.id)=false:=by simp[L]
   have i2:decide (site=S.id)=false:=by simp[L]
   have M:Hid (¬site=S.id):=L;have g:Hid (qd0 (w.alloc (.cells #[int i64 site,int i64 seq,int i64 wall,int i64 count,int i64 d0,int i64 d1,int i64 d2,int i64 d3,.slice a ws.length cap] 102)) b lv bm F S log waits/\log.map (·.t)=S.log/\waits.map (·.t)=S.waits/\∀k,G k↔(qbb b lv bm F k\/∃m∈log++waits,m.blk k)):=⟨PM,hl,hw,hG⟩;have P:Hid (qcx S):=hI;have N:Hid (∀c ev,qa8 S ⟨site,seq,wall,count,d0,d1,d2,d3,ws⟩=ev->ev≠0->Below w.heap.size w c->Hid ((.returned (qbq ev):Ending)=.returned (qbq (qa8 S ⟨site,seq,wall,count,d0,d1,d2,d3,ws⟩))/\∃S',qb8 S ⟨site,seq,wall,count,d0,d1,d2,d3,ws⟩ S'/\PPo w b G S' c)):=X;clear X PM hl hw hG P1 hI L;go_enter func210,ntmps210
   go_wp2_with fail
   refine qaa (by kernel_rfl) (by kernel_rfl) ?_
   repeat (go_big_quiet_step (first|rfl|(go_at_call 252;with_reducible exact qac (qgf (W1.later (Later.below _)) HK.out))))
   refine wpQuiet_nil ?_;rintro w2 ⟨⟨_,C⟩,rfl⟩;clear t0 Y t2 t3 t4 t5 t6 t7 t8 k0;have PM2:Hid (qd0 w2 b lv bm F S log waits):=g.out.1.later C;have RB2:=q.later C;have hbw:=qab hb C;have HBA2:Hid (Below (w.alloc (.cells #[int i64 site,int i64 seq,int i64 wall,int i64 count,int i64 d0,int i64 d1,int i64 d2,int i64 d3,.slice a ws.length cap] 102)).heap.size (w.alloc (.cells #[int i64 site,int i64 seq,int i64 wall,int i64 count,int i64 d0,int i64 d1,int i64 d2,int i64 d3,.slice a ws.length cap] 102)) w2):=C;have HNT:Hid (¬G w.heap.size):=nG;clear q hb C nG;have d8:=Later.cell (PM2.out.box.cell 8 _ rfl);have t0:=Later.cell (RB2.cell 0 _ rfl);have Y:=Later.cell (RB2.cell 1 _ rfl);have ks:=Later.cell (PM2.out.box.cell _ _ (qqr s0 s3))
   have s4:site<4:=by omega
   obtain⟨D,hD⟩:∃D,qaq site S.a0 S.a1 S.a2 S.a3=D:=⟨_,rfl⟩;have Z:Hid (qaq site S.a0 S.a1 S.a2 S.a3=D):=hD;rw[hD]at ks;clear hD;by_cases hle:seq<=D
   ·have E:qa8 S ⟨site,seq,wall,count,d0,d1,d2,d3,ws⟩=9:=by unfold qa8;rw[if_neg (by rw[H.out];decide),if_neg M.out,if_pos (by rw[Z.out];exact hle)]
    have u:=λc z=>N.out c 9 E (by decide) z;clear E N g P
    go_wp2_with fail
    refine qaa (by kernel_rfl) (by kernel_rfl) ?_
    repeat (go_big_quiet_step (first|rfl|fail))
    refine wpQuiet_nil ?_;rintro w3 ⟨⟨_,I⟩,rfl⟩
    go_wp2_with fail
    go_ret;exact(u _ (qab hbw I)).out
   ·obtain⟨mx,v,hL⟩:=q4s waits site seq;have wfs:wfI site:=⟨by omega,by omega⟩;have wfq:wfI seq:=⟨by omega,by omega⟩;have HAS:Hid (∀x:Later w2,Calls prog 253 #[.map (some bm),int i64 site,int i64 seq] x.val λe w'=>e=.returned (.bool v)/\Below x.val.heap.size x.val w'):=λx=>ja3 hL wfs wfq x.val (PM2.out.later x.below).map;have HAN:Hid (S.waits.any (λx=>qcl x ⟨site,seq,wall,count,d0,d1,d2,d3,ws⟩)=v):=q6o (t:=⟨site,seq,wall,count,d0,d1,d2,d3,ws⟩) g.out.2.2.1 hL;have HLE:Hid (¬seq<=D):=hle;have q1:decide (seq<=D)=false:=decide_eq_false hle;cases v
    rotate_left
    ·have E:qa8 S ⟨site,seq,wall,count,d0,d1,d2,d3,ws⟩=9:=by unfold qa8;rw[if_neg (by rw[H.out];decide),if_neg M.out,if_neg (by rw[Z.out];have:=HLE.out;simp only;omega),if_pos HAN.out]
     have u:=λc z=>N.out c 9 E (by decide) z;clear E N g P hL
     go_wp2_with fail
     refine qaa (by kernel_rfl) (by kernel_rfl) ?_
     repeat (go_big_quiet_step (first|rfl|(go_at_call 253;with_reducible exact qac (HAS.out _))))
     refine wpQuiet_nil ?_;rintro w3 ⟨⟨_,I⟩,rfl⟩
     go_wp2_with fail
     go_ret;exact(u _ (qab hbw I)).out
    ·have HNM:Hid (∀x∈waits,qcl x.t ⟨site,seq,wall,count,d0,d1,d2,d3,ws⟩=false):=λx Q=>by
         cases hi:qcl x.t ⟨site,seq,wall,count,d0,d1,d2,d3,ws⟩with
         |false=>rfl
         |true=>exact absurd (qgm.1 hi) ((hL.no rfl).2 x Q)
     clear hL
     go_wp2_with fail
     refine qaa (by kernel_rfl) (by kernel_rfl) ?_
     repeat (go_big_quiet_step (first|rfl|(go_at_call 253;with_reducible exact qac (HAS.out _))))
     refine wpQuiet_nil ?_;rintro w3 ⟨⟨_,I⟩,rfl⟩;have PM3:Hid (qd0 w3 b lv bm F S log waits):=PM2.out.later I;have RB3:=RB2.later I;have hbw3:=qab hbw I;have HBA:Hid (Below (w.alloc (.cells #[int i64 site,int i64 seq,int i64 wall,int i64 count,int i64 d0,int i64 d1,int i64 d2,int i64 d3,.slice a ws.length cap] 102)).heap.size (w.alloc (.cells #[int i64 site,int i64 seq,int i64 wall,int i64 count,int i64 d0,int i64 d1,int i64 d2,int i64 d3,.slice a ws.length cap] 102)) w3):=qab HBA2.out I;clear RB2 hbw I HAS hle t0 Y ks d8
     have hll:log.length=S.log.length:=by rw[<-g.out.2.1];simp
     have hwl:waits.length=S.waits.length:=by rw[<-g.out.2.2.1];simp
     by_cases hf:200<=log.length
     ·have E:qa8 S ⟨site,seq,wall,count,d0,d1,d2,d3,ws⟩=12:=by unfold qa8;rw[if_neg (by rw[H.out];decide),if_neg M.out,if_neg (by rw[Z.out];have:=HLE.out;simp only;omega),if_neg (by rw[HAN.out];decide),if_pos (by omega)]
      have u:=λc z=>N.out c 12 E (by decide) z;have IF:=qgd (decide_eq_true hf) w3 PM3.out;clear E N g P hf hll hwl
      go_wp2_with fail
      refine IF.mono ?_;rintro e d ⟨rfl,R⟩
      go_wp2_with fail
      go_ret;exact(u _ (qab hbw3 R)).out
     ·have IF:=qgd (decide_eq_false hf) w3 PM3.out
      have HF:Hid (S.log.length<200):=by show _<_;omega
      have HWL:Hid (waits.length=S.waits.length/\S.waits.length<=990):=⟨hwl,hn⟩;clear hf hll
      go_wp2_with fail
      refine IF.mono ?_;rintro e d ⟨rfl,R⟩;have O:Hid (qd0 d b lv bm F S log waits):=PM3.out.later R;have p:=RB3.later R;have hbw4:=qab hbw3 R;have HW4:Hid (Below (w.alloc (.cells #[int i64 site,int i64 seq,int i64 wall,int i64 count,int i64 d0,int i64 d1,int i64 d2,int i64 d3,.slice a ws.length cap] 102)).heap.size (w.alloc (.cells #[int i64 site,int i64 seq,int i64 wall,int i64 count,int i64 d0,int i64 d1,int i64 d2,int i64 d3,.slice a ws.length cap] 102)) d):=qab HBA.out R;clear RB3 hbw3 R;have d8:=O.out.box.cell 8 _ rfl;obtain⟨hM1,hM2,DD,hown,hMI⟩:=id O.out.map
      have LEN:∀ty,(Builtin.len_ #[214] ty #[.map (some bm)]).run prog d=.ok (int i64 waits.length) d:=λty=>by
          have:=hown.len underlying214 ty;rw[hMI.size]at this;exact this
      clear hM1 hM2 hown hMI;have t0:=(p.cell 0 _ rfl);have Y:=(p.cell 1 _ rfl);have t2:=(p.cell 2 _ rfl);have t3:=(p.cell 3 _ rfl);have t4:=(p.cell 4 _ rfl);have t5:=(p.cell 5 _ rfl);have t6:=(p.cell 6 _ rfl);have t7:=(p.cell 7 _ rfl);have t8:=(p.cell 8 _ rfl);by_cases h40:40<=waits.length
      ·have g40:(40:Int)<=(waits.length:Int):=by omega
       obtain⟨r,hr⟩:∃r,qau S ⟨site,seq,wall,count,d0,d1,d2,d3,ws⟩=r:=⟨_,rfl⟩;have RD:=qoc (v:=r) ⟨⟨site,seq,wall,count,d0,d1,d2,d3,ws⟩,a,cap⟩ d O.out s0 s3 (P.out.dep _) hr;simp only[txV]at RD;have HR:Hid (qau S ⟨site,seq,wall,count,d0,d1,d2,d3,ws⟩=r):=hr;clear hr;cases r
       ·have E:qa8 S ⟨site,seq,wall,count,d0,d1,d2,d3,ws⟩=12:=by unfold qa8;rw[if_neg (by rw[H.out];decide),if_neg M.out,if_neg (by rw[Z.out];have:=HLE.out;simp only;omega),if_neg (by rw[HAN.out];decide),if_neg (by have:=HF.out;omega),if_pos ⟨by have:=HWL.out;omega,HR.out⟩]
        have u:=λc z=>N.out c 12 E (by decide) z;clear E N g P
        go_wp2_with fail
        refine RD.mono ?_;rintro e i ⟨rfl,U⟩
        go_wp2_with fail
        go_ret;exact(u _ (qab hbw4 U)).out
       ·have E0:Hid (qa8 S ⟨site,seq,wall,count,d0,d1,d2,d3,ws⟩=0):=by show _=_;unfold qa8;rw[if_neg (by rw[H.out];decide),if_neg M.out,if_neg (by rw[Z.out];have:=HLE.out;simp only;omega),if_neg (by rw[HAN.out];decide),if_neg (by have:=HF.out;omega),if_neg (λe=>by rw[HR.out]at e;cases e.2)]
        go_wp2_with fail
        refine RD.mono ?_;rintro e i ⟨rfl,U⟩;have PM5:Hid (qd0 i b lv bm F S log waits):=O.out.later U;have RB5:=p.later U;have hbw5:=qab hbw4 U;have HW5:Hid (Below (w.alloc (.cells #[int i64 site,int i64 seq,int i64 wall,int i64 count,int i64 d0,int i64 d1,int i64 d2,int i64 d3,.slice a ws.length cap] 102)).heap.size (w.alloc (.cells #[int i64 site,int i64 seq,int i64 wall,int i64 count,int i64 d0,int i64 d1,int i64 d2,int i64 d3,.slice a ws.length cap] 102)) i):=qab HW4.out U;clear U;have hbW:Below (w.alloc (.cells #[int i64 site,int i64 seq,int i64 wall,int i64 count,int i64 d0,int i64 d1,int i64 d2,int i64 d3,.slice a ws.length cap] 102)).heap.size (w.alloc (.cells #[int i64 site,int i64 seq,int i64 wall,int i64 count,int i64 d0,int i64 d1,int i64 d2,int i64 d3,.slice a ws.length cap] 102)) i:=HW5.out;have HTB:Hid (∀w',qlg w' bm (waits++[⟨⟨site,seq,wall,count,d0,d1,d2,d3,ws⟩,none,0⟩])->True):=λ_ _=>trivial;have SB:TkB w.heap.size b bm [int i64 site,int i64 seq,int i64 wall,int i64 count,int i64 d0,int i64 d1,int i64 d2,int i64 d3,.slice a ws.length cap] i.drew:=⟨RB5.drew,PM5.out.box.cell 8 _ rfl⟩
        have CP:Hid (Calls prog 245 #[.agg #[int i64 site,int i64 seq,int i64 wall,int i64 count,int i64 d0,int i64 d1,int i64 d2,int i64 d3,.slice a ws.length cap]] i.drew λe w'=>(∃a2 c2,e=.returned (.agg #[int i64 site,int i64 seq,int i64 wall,int i64 count,int i64 d0,int i64 d1,int i64 d2,int i64 d3,.slice a2 ws.length c2])/\Hid (qaz w' a2 c2 ws/\(∀k,(⟨⟨site,seq,wall,count,d0,d1,d2,d3,ws⟩,a2,c2⟩:TxM).blk k->i.heap.size<=k)))/\TkB w.heap.size b bm [int i64 site,int i64 seq,int i64 wall,int i64 count,int i64 d0,int i64 d1,int i64 d2,int i64 d3,.slice a ws.length cap] w'/\Below i.heap.size i w'):=
             (qib ⟨⟨site,seq,wall,count,d0,d1,d2,d3,ws⟩,a,cap⟩ i.drew (W1.later (hbW.trans (Below.refl _ i).drew)) sw.1 (by have:=sw.2;simp only;omega)).mono λe w' ⟨m2,s,B,o,h4,h5⟩=>by
              obtain⟨t2,a2,c2⟩:=m2;simp only at s;subst s;have j:Below i.heap.size i w':=qab (Below.refl _ i).drew h5;exact⟨⟨a2,c2,B,o,h4⟩,⟨RB5.later j,(PM5.out.later j).box.cell 8 _ rfl⟩,j⟩
        have PU:Hid (∀a2 c2 l,(qaz l a2 c2 ws/\(∀k,(⟨⟨site,seq,wall,count,d0,d1,d2,d3,ws⟩,a2,c2⟩:TxM).blk k->i.heap.size<=k))->Below i.heap.size i l->Calls prog 255 #[.map (some bm),.agg #[int i64 site,int i64 seq,int i64 wall,int i64 count,int i64 d0,int i64 d1,int i64 d2,int i64 d3,.slice a2 ws.length c2]] l λe w'=>e=.returned (.tuple #[])/\TkB w.heap.size b bm [int i64 site,int i64 seq,int i64 wall,int i64 count,int i64 d0,int i64 d1,int i64 d2,int i64 d3,.slice a ws.length cap] w'/\Hid (∃n,PS w' b n {S with waits:=S.waits++[⟨site,seq,wall,count,d0,d1,d2,d3,ws⟩]}/\(∀k,n k->G k\/w.heap.size<=k)/\qae G w w')):=λa2 c2 l hh j=>by
             have J:=PM5.out.later j;have R6:=RB5.later j;refine(q55 ⟨⟨site,seq,wall,count,d0,d1,d2,d3,ws⟩,a2,c2⟩ l J.map ⟨⟨by simp only;omega,by simp only;omega⟩,⟨by simp only;omega,by simp only;omega⟩⟩ HNM.out (by have:=HWL.out;omega)).mono λe w' ⟨s,B,o⟩=>⟨s,⟨R6.grown o (λe=>?_),?_⟩,?_⟩
             ·injection e with e;exact HNT.out (by rw[e];exact(g.out.2.2.2 bm).2 (.inl (.inr (.inr (.inl rfl)))))
             ·rw[World.cell?_of_block (w:=l) (o.block b J.box.lt (λe=>J.nm (by injection e with e;exact e.symm)))];exact J.box.cell 8 _ rfl
             ·obtain⟨n,g1,g2,g3⟩:=q9r PM5.out g.out.2.1 g.out.2.2.1 g.out.2.2.2 j hh.1 hh.2 B o;exact⟨n,g1,λk V=>(g2 k V).imp id (λe=>by have:=hbw5.size;omega),(qae.ofBelow hbw5).more g3 (λk V=>.inl V)⟩
        have T0:=λ(w':World) (h:TkB w.heap.size b bm [int i64 site,int i64 seq,int i64 wall,int i64 count,int i64 d0,int i64 d1,int i64 d2,int i64 d3,.slice a ws.length cap] w')=>h.t.cell 0 _ rfl;have T1:=λ(w':World) (h:TkB w.heap.size b bm [int i64 site,int i64 seq,int i64 wall,int i64 count,int i64 d0,int i64 d1,int i64 d2,int i64 d3,.slice a ws.length cap] w')=>h.t.cell 1 _ rfl;have T2:=λ(w':World) (h:TkB w.heap.size b bm [int i64 site,int i64 seq,int i64 wall,int i64 count,int i64 d0,int i64 d1,int i64 d2,int i64 d3,.slice a ws.length cap] w')=>h.t.cell 2 _ rfl;have T3:=λ(w':World) (h:TkB w.heap.size b bm [int i64 site,int i64 seq,int i64 wall,int i64 count,int i64 d0,int i64 d1,int i64 d2,int i64 d3,.slice a ws.length cap] w')=>h.t.cell 3 _ rfl;have T4:=λ(w':World) (h:TkB w.heap.size b bm [int i64 site,int i64 seq,int i64 wall,int i64 count,int i64 d0,int i64 d1,int i64 d2,int i64 d3,.slice a ws.length cap] w')=>h.t.cell 4 _ rfl;have T5:=λ(w':World) (h:TkB w.heap.size b bm [int i64 site,int i64 seq,int i64 wall,int i64 count,int i64 d0,int i64 d1,int i64 d2,int i64 d3,.slice a ws.length cap] w')=>h.t.cell 5 _ rfl;have T6:=λ(w':World) (h:TkB w.heap.size b bm [int i64 site,int i64 seq,int i64 wall,int i64 count,int i64 d0,int i64 d1,int i64 d2,int i64 d3,.slice a ws.length cap] w')=>h.t.cell 6 _ rfl;have T7:=λ(w':World) (h:TkB w.heap.size b bm [int i64 site,int i64 seq,int i64 wall,int i64 count,int i64 d0,int i64 d1,int i64 d2,int i64 d3,.slice a ws.length cap] w')=>h.t.cell 7 _ rfl;have T8:=λ(w':World) (h:TkB w.heap.size b bm [int i64 site,int i64 seq,int i64 wall,int i64 count,int i64 d0,int i64 d1,int i64 d2,int i64 d3,.slice a ws.length cap] w')=>h.t.cell 8 _ rfl;have TM:=λ(w':World) (h:TkB w.heap.size b bm [int i64 site,int i64 seq,int i64 wall,int i64 count,int i64 d0,int i64 d1,int i64 d2,int i64 d3,.slice a ws.length cap] w')=>h.m;clear HTB t0 Y t2 t3 t4 t5 t6 t7 t8 d8 LEN
        go_wp2_with fail
        go_region_held3 (λw'=>TkB w.heap.size b bm [int i64 site,int i64 seq,int i64 wall,int i64 count,int i64 d0,int i64 d1,int i64 d2,int i64 d3,.slice a ws.length cap] w') (with_reducible assumption)
             (first
               |(go_at_call 245;with_reducible refine CP.out.mono ?_;rintro e l ⟨⟨a2,c2,rfl,HC6⟩,N6,hb6⟩)
               |(go_at_call 255;with_reducible refine(PU.out a2 c2 _ HC6.out hb6).mono ?_;rintro e W ⟨rfl,N7,HP7⟩))
        all_goals
             clear T0 T1 T2 T3 T4 T5 T6 T7 T8 TM;obtain⟨n,q1,q2,q3⟩:=HP7.out;have AR:=qkp W q1 (P.out.wait H.out M.out (λx Q=>by rw[<-g.out.2.2.1]at Q;obtain⟨y,hy,rfl⟩:=List.mem_map.1 Q;exact HNM.out y hy)) (by have:=HWL.out;simp;omega);have HGO:Hid (∀S' w',PPo W b n S' w'->PPo w b G S' w'):=λS' w' K=>GO0.out W n S' q2 q3 w' K;clear q1 q2 q3
             go_wp2_with fail
             refine AR.mono ?_;rintro e w8 ⟨rfl,S',hgo,K⟩;have HF9:Hid (∃S',qb8 S ⟨site,seq,wall,count,d0,d1,d2,d3,ws⟩ S'/\PPo w b G S' w8):=⟨S',.inr ⟨E0.out,hgo⟩,HGO.out S' w8 K⟩;clear hgo K
             go_wp2_with fail
             go_ret;refine⟨?_,HF9.out⟩;rw[E0.out];rfl
      ·have g40:¬(40:Int)<=(waits.length:Int):=by omega
       have E0:Hid (qa8 S ⟨site,seq,wall,count,d0,d1,d2,d3,ws⟩=0):=by show _=_;unfold qa8;rw[if_neg (by rw[H.out];decide),if_neg M.out,if_neg (by rw[Z.out];have:=HLE.out;simp only;omega),if_neg (by rw[HAN.out];decide),if_neg (by have:=HF.out;omega),if_neg (λe=>by have:=HWL.out;omega)]
       go_wp2_with fail
       have hbW:Below (w.alloc (.cells #[int i64 site,int i64 seq,int i64 wall,int i64 count,int i64 d0,int i64 d1,int i64 d2,int i64 d3,.slice a ws.length cap] 102)).heap.size (w.alloc (.cells #[int i64 site,int i64 seq,int i64 wall,int i64 count,int i64 d0,int i64 d1,int i64 d2,int i64 d3,.slice a ws.length cap] 102)) d:=HW4.out;have HTB:Hid (∀w',qlg w' bm (waits++[⟨⟨site,seq,wall,count,d0,d1,d2,d3,ws⟩,none,0⟩])->True):=λ_ _=>trivial;have SB:TkB w.heap.size b bm [int i64 site,int i64 seq,int i64 wall,int i64 count,int i64 d0,int i64 d1,int i64 d2,int i64 d3,.slice a ws.length cap] d.drew:=⟨p.drew,O.out.box.cell 8 _ rfl⟩
       have CP:Hid (Calls prog 245 #[.agg #[int i64 site,int i64 seq,int i64 wall,int i64 count,int i64 d0,int i64 d1,int i64 d2,int i64 d3,.slice a ws.length cap]] d.drew λe w'=>(∃a2 c2,e=.returned (.agg #[int i64 site,int i64 seq,int i64 wall,int i64 count,int i64 d0,int i64 d1,int i64 d2,int i64 d3,.slice a2 ws.length c2])/\Hid (qaz w' a2 c2 ws/\(∀k,(⟨⟨site,seq,wall,count,d0,d1,d2,d3,ws⟩,a2,c2⟩:TxM).blk k->d.heap.size<=k)))/\TkB w.heap.size b bm [int i64 site,int i64 seq,int i64 wall,int i64 count,int i64 d0,int i64 d1,int i64 d2,int i64 d3,.slice a ws.length cap] w'/\Below d.heap.size d w'):=
           (qib ⟨⟨site,seq,wall,count,d0,d1,d2,d3,ws⟩,a,cap⟩ d.drew (W1.later (hbW.trans (Below.refl _ d).drew)) sw.1 (by have:=sw.2;simp only;omega)).mono λe w' ⟨m2,s,B,o,h4,h5⟩=>by
             obtain⟨t2,a2,c2⟩:=m2;simp only at s;subst s;have j:Below d.heap.size d w':=qab (Below.refl _ d).drew h5;exact⟨⟨a2,c2,B,o,h4⟩,⟨p.later j,(O.out.later j).box.cell 8 _ rfl⟩,j⟩
       have PU:Hid (∀a2 c2 l,(qaz l a2 c2 ws/\(∀k,(⟨⟨site,seq,wall,count,d0,d1,d2,d3,ws⟩,a2,c2⟩:TxM).blk k->d.heap.size<=k))->Below d.heap.size d l->Calls prog 255 #[.map (some bm),.agg #[int i64 site,int i64 seq,int i64 wall,int i64 count,int i64 d0,int i64 d1,int i64 d2,int i64 d3,.slice a2 ws.length c2]] l λe w'=>e=.returned (.tuple #[])/\TkB w.heap.size b bm [int i64 site,int i64 seq,int i64 wall,int i64 count,int i64 d0,int i64 d1,int i64 d2,int i64 d3,.slice a ws.length cap] w'/\Hid (∃n,PS w' b n {S with waits:=S.waits++[⟨site,seq,wall,count,d0,d1,d2,d3,ws⟩]}/\(∀k,n k->G k\/w.heap.size<=k)/\qae G w w')):=λa2 c2 l hh j=>by
           have J:=O.out.later j;have R6:=p.later j;refine(q55 ⟨⟨site,seq,wall,count,d0,d1,d2,d3,ws⟩,a2,c2⟩ l J.map ⟨⟨by simp only;omega,by simp only;omega⟩,⟨by simp only;omega,by simp only;omega⟩⟩ HNM.out (by have:=HWL.out;omega)).mono λe w' ⟨s,B,o⟩=>⟨s,⟨R6.grown o (λe=>?_),?_⟩,?_⟩
           ·injection e with e;exact HNT.out (by rw[e];exact(g.out.2.2.2 bm).2 (.inl (.inr (.inr (.inl rfl)))))
           ·rw[World.cell?_of_block (w:=l) (o.block b J.box.lt (λe=>J.nm (by injection e with e;exact e.symm)))];exact J.box.cell 8 _ rfl
           ·obtain⟨n,g1,g2,g3⟩:=q9r O.out g.out.2.1 g.out.2.2.1 g.out.2.2.2 j hh.1 hh.2 B o;exact⟨n,g1,λk V=>(g2 k V).imp id (λe=>by have:=hbw4.size;omega),(qae.ofBelow hbw4).more g3 (λk V=>.inl V)⟩
       have T0:=λ(w':World) (h:TkB w.heap.size b bm [int i64 site,int i64 seq,int i64 wall,int i64 count,int i64 d0,int i64 d1,int i64 d2,int i64 d3,.slice a ws.length cap] w')=>h.t.cell 0 _ rfl;have T1:=λ(w':World) (h:TkB w.heap.size b bm [int i64 site,int i64 seq,int i64 wall,int i64 count,int i64 d0,int i64 d1,int i64 d2,int i64 d3,.slice a ws.length cap] w')=>h.t.cell 1 _ rfl;have T2:=λ(w':World) (h:TkB w.heap.size b bm [int i64 site,int i64 seq,int i64 wall,int i64 count,int i64 d0,int i64 d1,int i64 d2,int i64 d3,.slice a ws.length cap] w')=>h.t.cell 2 _ rfl;have T3:=λ(w':World) (h:TkB w.heap.size b bm [int i64 site,int i64 seq,int i64 wall,int i64 count,int i64 d0,int i64 d1,int i64 d2,int i64 d3,.slice a ws.length cap] w')=>h.t.cell 3 _ rfl;have T4:=λ(w':World) (h:TkB w.heap.size b bm [int i64 site,int i64 seq,int i64 wall,int i64 count,int i64 d0,int i64 d1,int i64 d2,int i64 d3,.slice a ws.length cap] w')=>h.t.cell 4 _ rfl;have T5:=λ(w':World) (h:TkB w.heap.size b bm [int i64 site,int i64 seq,int i64 wall,int i64 count,int i64 d0,int i64 d1,int i64 d2,int i64 d3,.slice a ws.length cap] w')=>h.t.cell 5 _ rfl;have T6:=λ(w':World) (h:TkB w.heap.size b bm [int i64 site,int i64 seq,int i64 wall,int i64 count,int i64 d0,int i64 d1,int i64 d2,int i64 d3,.slice a ws.length cap] w')=>h.t.cell 6 _ rfl;have T7:=λ(w':World) (h:TkB w.heap.size b bm [int i64 site,int i64 seq,int i64 wall,int i64 count,int i64 d0,int i64 d1,int i64 d2,int i64 d3,.slice a ws.length cap] w')=>h.t.cell 7 _ rfl;have T8:=λ(w':World) (h:TkB w.heap.size b bm [int i64 site,int i64 seq,int i64 wall,int i64 count,int i64 d0,int i64 d1,int i64 d2,int i64 d3,.slice a ws.length cap] w')=>h.t.cell 8 _ rfl;have TM:=λ(w':World) (h:TkB w.heap.size b bm [int i64 site,int i64 seq,int i64 wall,int i64 count,int i64 d0,int i64 d1,int i64 d2,int i64 d3,.slice a ws.length cap] w')=>h.m;clear HTB t0 Y t2 t3 t4 t5 t6 t7 t8 d8 LEN
       go_wp2_with fail
       go_region_held3 (λw'=>TkB w.heap.size b bm [int i64 site,int i64 seq,int i64 wall,int i64 count,int i64 d0,int i64 d1,int i64 d2,int i64 d3,.slice a ws.length cap] w') (with_reducible assumption)
           (first
             |(go_at_call 245;with_reducible refine CP.out.mono ?_;rintro e l ⟨⟨a2,c2,rfl,HC6⟩,N6,hb6⟩)
             |(go_at_call 255;with_reducible refine(PU.out a2 c2 _ HC6.out hb6).mono ?_;rintro e W ⟨rfl,N7,HP7⟩))
       all_goals
           clear T0 T1 T2 T3 T4 T5 T6 T7 T8 TM;obtain⟨n,q1,q2,q3⟩:=HP7.out;have AR:=qkp W q1 (P.out.wait H.out M.out (λx Q=>by rw[<-g.out.2.2.1]at Q;obtain⟨y,hy,rfl⟩:=List.mem_map.1 Q;exact HNM.out y hy)) (by have:=HWL.out;simp;omega);have HGO:Hid (∀S' w',PPo W b n S' w'->PPo w b G S' w'):=λS' w' K=>GO0.out W n S' q2 q3 w' K;clear q1 q2 q3
           go_wp2_with fail
           refine AR.mono ?_;rintro e w8 ⟨rfl,S',hgo,K⟩;have HF9:Hid (∃S',qb8 S ⟨site,seq,wall,count,d0,d1,d2,d3,ws⟩ S'/\PPo w b G S' w8):=⟨S',.inr ⟨E0.out,hgo⟩,HGO.out S' w8 K⟩;clear hgo K
           go_wp2_with fail
           go_ret;refine⟨?_,HF9.out⟩;rw[E0.out];rfl
end
section
open Go.RowKit
theorem q7l {lw lc now x y ne:Int} (h:qfp lw lc now=(x,y,ne)) (w:World):
 Calls Tryz.prog 243 #[.agg #[.int .i64 lw,.int .i64 lc],.int .i64 now] w λe w'=>e=.returned (.tuple #[.agg #[.int .i64 x,.int .i64 y],qbq ne])/\Below w.heap.size w w':=by
 unfold qfp at h;split at h
 ·rename_i g;injection h with h1 h2;injection h2 with h2 h3;subst h1 h2 h3;exact qvf lw lc now w g
 ·rename_i g
  have g':(qal lw&&qal lc)=true:=by simpa using g
  have hb:0<=lc/\lc<=1099511627776:=by
   have d:=g';simp[qal]at d;omega
  split at h
  ·rename_i a;injection h with h1 h2;injection h2 with h2 h3;subst h1 h2 h3;exact qvi lw lc now w g' a
  ·rename_i a
   have c:qal now=true:=by simpa using a
   split at h
   ·rename_i g3;injection h with h1 h2;injection h2 with h2 h3;subst h1 h2 h3;exact q51 lw lc now w g' c g3
   ·rename_i g3;split at h
    ·rename_i g4;injection h with h1 h2;injection h2 with h2 h3;subst h1 h2 h3;exact q2g lw lc now w g' c g3 (by simp;omega)
    ·rename_i g4;injection h with h1 h2;injection h2 with h2 h3;subst h1 h2 h3;exact qzn lw lc now w g' c g3 (by simp;omega) hb.1 (by omega)
def qnc (S:qaf) (now d0 d1 d2 d3:Int) (ws:List Wr):Int:=qa1 S S.log.length now d0 d1 d2 d3 ws
def qo6 (S:qaf) (now d0 d1 d2 d3:Int) (ws:List Wr):TxP:=if qnc S now d0 d1 d2 d3 ws=0 then qcd S now d0 d1 d2 d3 ws else ⟨0,0,0,0,0,0,0,0,[]⟩
def qmt (S:qaf) (now d0 d1 d2 d3:Int) (ws:List Wr):qaf:=if qnc S now d0 d1 d2 d3 ws=0 then qcb S (qcd S now d0 d1 d2 d3 ws)else S
def qwc (w:World) (b:Nat) (G:Nat->Prop) (S:qaf) (now d0 d1 d2 d3:Int) (ws:List Wr) (e:Ending) (w':World):Prop:=
 ∃(m:TxM) (G':Nat->Prop),e=.returned (.tuple #[txV m,qbq (qnc S now d0 d1 d2 d3 ws)])/\m.t=qo6 S now d0 d1 d2 d3 ws/\Hid (qaz w' m.wa m.wc m.t.ws/\PS w' b G' (qmt S now d0 d1 d2 d3 ws)/\(∀k,G' k->G k\/w.heap.size<=k)/\qae G w w'/\∀k,m.blk k->w.heap.size<=k/\¬G' k)
variable {w:World} {b:Nat}
theorem qda {tmps:Array Value} {m:TxM} {ev:Value} (h:qag w b (txC m)) (a:tmps[8]?=some (.pointer (some ⟨b,0,none⟩))) (c:tmps[9]?=some ev):
 (results Tryz.f206 tmps).run Tryz.prog w=.ok (.tuple #[txV m,ev]) w:=by
 obtain⟨z0,d,z2,z3,z4,z5,e,g,i⟩:=h.c9;simp[results,Tryz.results206,go_sem,a,c,z0,d,z2,z3,z4,z5,e,g,i,txV]
variable {S:qaf} {d0 d1 d2 d3:Int} {ws:List Wr}
theorem qqy {now:Int} (a:qcx S) (h:qnc S now d0 d1 d2 d3 ws=0):qcx (qcb S (qcd S now d0 d1 d2 d3 ws))/\1<=ws.length/\ws.length<=5/\S.log.length<200:=by
 obtain⟨d,f,g,i,j⟩:=qjh h
 have c:1<=ws.length/\ws.length<=5:=by
  simp only[qe8,Bool.and_eq_true,qa5]at d;omega
 have k:=a.own;have e:=a.dep S.id;refine⟨a.applied ⟨a.id0,a.id3⟩ ⟨?_,?_⟩ c (λ_=>?_) (by omega),c.1,c.2,by omega⟩
 ·show 0<=qaq S.id _ _ _ _+1;have:=e.1;omega
 ·show qaq S.id _ _ _ _+1<=_;omega
 ·show qaq S.id _ _ _ _+1<=_;omega
variable {F:Nat->Prop} {W:World}
theorem qdq {p:Addr} (h:qae F w W) (d:w.heap.size<=p.block) (v:Value):qae F w (W.setCell p v):=
 ⟨h.os,h.tape,h.output,by simpa[World.setCell]using h.size,λk a c=>(Below.heap_setCell _ _ _ _ (by omega)).trans (h.block k a c)⟩
theorem qyd (h:qae F w W) (a:w.heap.size<=b) (x0 x1 x2 x3 c d e f:Int) (v:Value):qae F w (qbu W b x0 x1 x2 x3 c d e f v):=
 qdq (qdq (qdq (qdq (qdq (qdq (qdq (qdq (qdq h a _) a _) a _) a _) a _) a _) a _) a _) a _
theorem qy0 {s l i:World} {lv p:Value} {bm:Nat} {F' G:Nat->Prop} {log waits:List TxM} {now:Int} {x0 x1 x2 x3 a c d f:Int} {u wa2:Option Addr} {v wc2:Nat} (L:PS w b G S) (M:Below w.heap.size w s) (hs:w.heap.size+1<s.heap.size)
 (B:qd0 l b p bm F' (qcb S ⟨x0,x1,x2,x3,a,c,d,f,ws⟩) (log++[⟨⟨x0,x1,x2,x3,a,c,d,f,ws⟩,u,v⟩]) waits) (C:∀k,qbb b p bm F' k->qbb b lv bm F k\/s.heap.size<=k) (r:qae (qbb b lv bm F) s l)
 (D:∀k,(⟨⟨x0,x1,x2,x3,a,c,d,f,ws⟩,u,v⟩:TxM).blk k->w.heap.size+1<k) (E:log.map (·.t)=S.log) (H:waits.map (·.t)=S.waits) (n:∀k,G k↔(qbb b lv bm F k\/∃m∈log++waits,m.blk k)) (I:Below l.heap.size l i)
 (N:qaz i wa2 wc2 ws) (x:∀k,(⟨⟨x0,x1,x2,x3,a,c,d,f,ws⟩,wa2,wc2⟩:TxM).blk k->w.heap.size+1<k/\l.heap.size<=k) (J:qcd S now d0 d1 d2 d3 ws=⟨x0,x1,x2,x3,a,c,d,f,ws⟩) (y:qnc S now d0 d1 d2 d3 ws=0):
 Hid (qwc w b G S now d0 d1 d2 d3 ws (.returned (.tuple #[txV ⟨⟨x0,x1,x2,x3,a,c,d,f,ws⟩,wa2,wc2⟩,.nilIface])) (qbu i (w.heap.size+1) x0 x1 x2 x3 a c d f (.slice wa2 ws.length wc2))):=by
 have O:qae G w i:=((qae.ofBelow M).more ⟨r.os,r.tape,r.output,r.size,λk j P=>r.block k j (λe=>P ((n k).2 (.inl e)))⟩ (λk j=>.inl j)).trans (qae.ofBelow I);have K:∀k,k≠w.heap.size+1->(qbu i (w.heap.size+1) x0 x1 x2 x3 a c d f (.slice wa2 ws.length wc2)).heap[k]?=i.heap[k]?:=λk j=>qem j x0 x1 x2 x3 a c d f _
 have V:(qbu i (w.heap.size+1) x0 x1 x2 x3 a c d f (.slice wa2 ws.length wc2)).heap.size=i.heap.size:=by simp only[qbu,World.setCell,Array.size_modify]
 have Q:qae G w (qbu i (w.heap.size+1) x0 x1 x2 x3 a c d f (.slice wa2 ws.length wc2)):=qyd O (Nat.le_succ _) _ _ _ _ _ _ _ _ _
 generalize qbu i (w.heap.size+1) x0 x1 x2 x3 a c d f (.slice wa2 ws.length wc2)=W at*
 have R:=B.later I;have z:=L.lt
 have T:PS W b (λk=>qbb b p bm F' k\/∃m∈(log++[⟨⟨x0,x1,x2,x3,a,c,d,f,ws⟩,u,v⟩])++waits,m.blk k) (qcb S ⟨x0,x1,x2,x3,a,c,d,f,ws⟩):=by
  refine⟨p,bm,F',_,waits,R.kept (λk j=>K k (λe=>?_)) (by omega),by rw[List.map_append,E];rfl,H,λk=>Iff.rfl⟩;rcases j with g|⟨m,A,g⟩
  ·rcases C k g with h|h
   ·have:=z k ((n k).2 (.inl h));omega
   ·omega
  ·rcases List.mem_append.1 A with h|h
   ·rcases List.mem_append.1 h with o|o
    ·have:=z k ((n k).2 (.inr ⟨m,List.mem_append.2 (.inl o),g⟩));omega
    ·rw[List.mem_singleton.1 o]at g;have:=D k g;omega
   ·have:=z k ((n k).2 (.inr ⟨m,List.mem_append.2 (.inr h),g⟩));omega
 have U:∀k,(qbb b p bm F' k\/∃m∈(log++[⟨⟨x0,x1,x2,x3,a,c,d,f,ws⟩,u,v⟩])++waits,m.blk k)->k<l.heap.size:=PS.lt (w:=l) (b:=b) (S:=qcb S ⟨x0,x1,x2,x3,a,c,d,f,ws⟩) ⟨p,bm,F',_,waits,B,by rw[List.map_append,E];rfl,H,λk=>Iff.rfl⟩;refine⟨⟨⟨x0,x1,x2,x3,a,c,d,f,ws⟩,wa2,wc2⟩,_,by rw[y];rfl,?_,qaz.kept (m:=⟨⟨x0,x1,x2,x3,a,c,d,f,ws⟩,wa2,wc2⟩) (w:=i) N (λk e=>K k (by have:=(x k e).1;omega)),by unfold qmt;rw[if_pos y,J];exact T,λk j=>?_,Q,λk e=>⟨by have:=(x k e).1;omega,λq=>by have:=U k q;have:=(x k e).2;omega⟩⟩
 ·unfold qo6;rw[if_pos y,J]
 ·rcases j with g|⟨m,A,g⟩
  ·rcases C k g with h|h
   ·exact .inl ((n k).2 (.inl h))
   ·exact .inr (by omega)
  ·rcases List.mem_append.1 A with h|h
   ·rcases List.mem_append.1 h with o|o
    ·exact .inl ((n k).2 (.inr ⟨m,List.mem_append.2 (.inl o),g⟩))
    ·rw[List.mem_singleton.1 o]at g;have:=D k g;exact .inr (by omega)
   ·exact .inl ((n k).2 (.inr ⟨m,List.mem_append.2 (.inr h),g⟩))
end
section
open Go.RowKit
def cnt (H:List TxP) (s:Int):Nat:=H.countP (λx=>decide (x.site=s))
def q1q (S:qaf) (s:Int):Int:=qaq s S.a0 S.a1 S.a2 S.a3
end
section
open Go.RowKit
theorem qzb {S:qaf} (h:qht S=none):∀x∈S.waits,0<=x.site->x.site<=3->qau S x=false:=by
 have a:qe6 S 0=none/\qe6 S 1=none/\qe6 S 2=none/\qe6 S 3=none:=by
  unfold qht at h;split at h
  ·cases h
  ·rename_i p0;split at h
   ·cases h
   ·rename_i p1;split at h
    ·cases h
    ·rename_i p2;exact⟨p0,p1,p2,h⟩
 intro x b d f
 have c:x.site=0\/x.site=1\/x.site=2\/x.site=3:=by omega
 rcases c with e|e|e|e
 ·exact qh8 a.1 x b e
 ·exact qh8 a.2.1 x b e
 ·exact qh8 a.2.2.1 x b e
 ·exact qh8 a.2.2.2 x b e
end
section
open Go.RowKit
theorem q8b {lw lc now:Int} (h:(qfp lw lc now).2.2=0):qal (qfp lw lc now).1=true/\qal (qfp lw lc now).2.1=true/\qkj lw lc (qfp lw lc now).1 (qfp lw lc now).2.1<0:=by
 unfold qfp at h ⊢;split
 ·rename_i g;rw[if_pos g]at h;cases h
 ·rename_i g;rw[if_neg g]at h
  have g':(qal lw&&qal lc)=true:=by simpa using g
  rw[Bool.and_eq_true,qfs,qfs]at g';split
  ·rename_i b;rw[if_pos b]at h;cases h
  ·rename_i b;rw[if_neg b]at h
   have c:qal now=true:=by simpa using b
   split
   ·rename_i g3;show qal now=true/\qal 0=true/\qkj lw lc now 0<0;refine⟨c,qh7 (by decide) (by decide),?_⟩
    rcases qet lw lc now 0 with ⟨a,e⟩|⟨a,e⟩|⟨a,e⟩<;>simp only[e]<;>omega
   ·rename_i g3;rw[if_neg g3]at h;split
    ·rename_i g4;rw[if_pos g4]at h;cases h
    ·rename_i g4;show qal lw=true/\qal (lc+1)=true/\qkj lw lc lw (lc+1)<0;refine⟨qh7 g'.1.1 g'.1.2,qh7 (by omega) (by omega),?_⟩
     rcases qet lw lc lw (lc+1)with ⟨a,e⟩|⟨a,e⟩|⟨a,e⟩<;>simp only[e]<;>omega
theorem q15 (i q d0 d1 d2 d3 s:Int) (b:0<=s) (c:s<=3):qaq s (qh4 i q d0) (qhq i q d1) (qhs i q d2) (qh6 i q d3)=if s=i then q else qaq s d0 d1 d2 d3:=by
 have a:s=0\/s=1\/s=2\/s=3:=by omega
 rcases a with rfl|rfl|rfl|rfl<;>simp[qaq,qh4,qhq,qhs,qh6,eq_comm]
end
section
open Go.RowKit
theorem Goes.log {S S':qaf} (h:Goes S S'):(∀x∈S.log,x∈S'.log)/\S'.waits.length<=S.waits.length:=by
 induction h with
 |full _=>exact⟨λ_ h=>h,Nat.le_refl _⟩
 |none _=>exact⟨λ_ h=>h,Nat.le_refl _⟩
 |step _ _ _ ih=>exact⟨λx a=>ih.1 x (List.mem_append.2 (.inl a)),Nat.le_trans ih.2 (List.length_filter_le _ _)⟩
end
section
open Go.RowKit
structure qbn where
 p0:Int
 p1:Int
 p2:Int
 p3:Int
 opn:Bool
 s0:Int
 s1:Int
 s2:Int
 s3:Int
 ws:List Wr
def qia:qbn:=⟨0,0,0,0,false,0,0,0,0,[]⟩
def qf1 (l:List Wr) (key:Int):Option Wr:=l.reverse.find? (λx=>decide (x.key=key))
theorem qn8 (l:List Wr) (x:Wr) (key:Int):qf1 (l++[x]) key=if x.key=key then some x else qf1 l key:=by
 unfold qf1;rw[List.reverse_append];by_cases h:x.key=key
 ·simp[h]
 ·simp[h]
theorem q6h {l:List Wr} {key:Int} {x:Wr} (h:qf1 l key=some x):x.key=key/\x∈l:=by
 unfold qf1 at h;have a:=List.find?_some h;have b:=List.mem_of_find?_eq_some h;exact⟨by simpa using a,by simpa using b⟩
def qb6 (l:List Wr):List Wr:=(List.range 8).filterMap (λ(k:Nat)=>qf1 l (k:Int))
def qed (l:List Wr) (k:Nat):List Wr:=(List.range k).filterMap (λ(k:Nat)=>qf1 l (k:Int))
theorem qj5 (l:List Wr) (k:Nat):qed l (k+1)=qed l k++(match qf1 l (k:Int)with|some x=>[x]|none=>[]):=by
 unfold qed;rw[List.range_succ,List.filterMap_append]
 cases h:qf1 l (k:Int)<;>simp[h]
theorem qmb (l:List Wr) (k:Nat):(qed l k).length<=k:=by
 unfold qed;have:=List.length_filterMap_le (λ(k:Nat)=>qf1 l (k:Int)) (List.range k);simpa using this
theorem qpy (l:List Wr) (x:Wr) (k:Nat) (c:0<=x.key):(qed (l++[x]) k).length=(qed l k).length+if x.key<k/\qf1 l x.key=none then 1 else 0:=by
 induction k with
 |zero=>simp[qed];omega
 |succ k ih=>
  rw[qj5,qj5,List.length_append,List.length_append,ih,qn8];by_cases h:x.key=(k:Int)
  ·rw[if_pos h,h];cases ho:qf1 l (k:Int)with
   |none=>
    rw[if_neg (by omega),if_pos ⟨by omega,rfl⟩];simp
   |some y=>
    rw[if_neg (by omega),if_neg (by simp)];simp
  ·rw[if_neg h]
   have e:(x.key<(k:Int)/\qf1 l x.key=none)↔(x.key<((k+1:Nat):Int)/\qf1 l x.key=none):=by
        constructor
        ·rintro ⟨a,b⟩;exact⟨by omega,b⟩
        ·rintro ⟨a,b⟩;exact⟨by omega,b⟩
   by_cases g:x.key<(k:Int)/\qf1 l x.key=none
   ·rw[if_pos g,if_pos (e.1 g)];omega
   ·rw[if_neg g,if_neg (λh=>g (e.2 h))];omega
def qps (S:qaf) (s:qbn):Int:=if s.opn=true then 6 else if qfu S.a0 S.a1 S.a2 S.a3 s.p0 s.p1 s.p2 s.p3=false then 10 else 0
def qpb (S:qaf) (s:qbn):qbn:=if qps S s=0 then {s with opn:=true,s0:=S.a0,s1:=S.a1,s2:=S.a2,s3:=S.a3,ws:=[]}else s
def qb2 (S:qaf) (s:qbn) (key:Int):ByteArray×Int:=
 if s.opn=false then (⟨#[]⟩,6)else match qf1 s.ws key with
    |some x=>if x.gone=true then (⟨#[]⟩,8)else (x.data,0)
    |none=>((qfe S key s.s0 s.s1 s.s2 s.s3).1.data,(qfe S key s.s0 s.s1 s.s2 s.s3).2)
def qf4 (s:qbn) (x:Wr):Int:=
 if s.opn=false then 6 else if x.key<0\/8<=x.key then 2 else if 12<x.data.size then 4 else if x.gone=true/\x.data.size≠0 then 1 else if qf1 s.ws x.key=none/\5<=(qb6 s.ws).length then 12 else 0
def qlk (s:qbn) (x:Wr):qbn:=if qf4 s x=0 then {s with ws:=s.ws++[x]}else s
def qhe (s:qbn):qbn:=⟨qb9 s.p0 s.s0,qb9 s.p1 s.s1,qb9 s.p2 s.s2,qb9 s.p3 s.s3,false,0,0,0,0,[]⟩
def qsu (s:qbn):Int:=if s.opn=false then 6 else 0
def qpr (s:qbn):qbn:=if s.opn=false then s else qhe s
def qgo (S:qaf) (s:qbn) (now:Int):Int:=if s.opn=false then 6 else if (qb6 s.ws).length=0 then 0 else qnc S now s.s0 s.s1 s.s2 s.s3 (qb6 s.ws)
def qe7 (S:qaf) (s:qbn) (now:Int):TxP:=if s.opn=false\/(qb6 s.ws).length=0 then ⟨0,0,0,0,0,0,0,0,[]⟩else qo6 S now s.s0 s.s1 s.s2 s.s3 (qb6 s.ws)
def atLeast (site seq:Int) (s:qbn):qbn:={s with p0:=if site=0 then qb9 s.p0 seq else s.p0,p1:=if site=1 then qb9 s.p1 seq else s.p1,p2:=if site=2 then qb9 s.p2 seq else s.p2,p3:=if site=3 then qb9 s.p3 seq else s.p3}
def qbe (S:qaf) (s:qbn) (now:Int):qbn:=if qgo S s now≠0 then s else if (qb6 s.ws).length=0 then qhe s else atLeast (qe7 S s now).site (qe7 S s now).seq (qhe s)
def qe9 (S:qaf) (s:qbn) (now:Int):qaf:=if s.opn=false\/(qb6 s.ws).length=0 then S else qmt S now s.s0 s.s1 s.s2 s.s3 (qb6 s.ws)
theorem qcx.scom {S:qaf} {s:qbn} {now:Int} (h:qcx S):qcx (qe9 S s now):=by
 unfold qe9 qmt;split
 ·exact h
 ·split
  ·rename_i g;exact(qqy h g).1
  ·exact h
end
section
open Go.RowKit
def qhm (S:qaf) (h0 h1 h2 h3:Int):List TxP:=S.log.filter (λt=>decide (qaq t.site h0 h1 h2 h3<t.seq))
variable {S:qaf}
theorem qs4 {log:List TxM} (h:log.map (·.t)=S.log) (a b c d:Int):(log.filter (qgl a b c d)).map (·.t)=qhm S a b c d:=by
 unfold qhm;rw[<-h,List.filter_map];rfl
def jcb (w:World) (L:List TxP) (v:Value) (w':World):Prop:=∃kept:List TxM,kept.map (·.t)=L/\(∃B,w.heap.size<=B/\w'.ownsRow B 102 9 v kept.length (qfi kept))/\(∀m∈kept,qaz w' m.wa m.wc m.t.ws/\∀j,m.blk j->w.heap.size<=j)/\Below w.heap.size w w'
theorem qu0 {b:Nat} {G:Nat->Prop} (a c d g:Int) (w:World) (h:PS w b G S) (j:qcx S):
 Calls Tryz.prog 258 #[.pointer (some ⟨b,0,none⟩),.agg #[.int .i64 a,.int .i64 c,.int .i64 d,.int .i64 g]] w λe w'=>∃v,e=.returned v/\jcb w (qhm S a c d g) v w':=by
 obtain⟨lv,bm,F,log,waits,h,i,_,_⟩:=h
 have r:log.length=S.log.length:=by rw[<-i];simp
 refine(qvt a c d g w h (λm k=>j.lsite m.t (by rw[<-i];exact List.mem_map.2 ⟨m,k,rfl⟩)) (by have:=j.log;omega)).mono λe w' ⟨v,l,kept,n,o,p,q⟩=>⟨v,l,kept,?_,o,p,q⟩;rw[<-n];exact qs4 i _ _ _ _
end
section
open Tryz Go.Value Go.IntKind Go.RowKit
theorem qra {n:Int} {v:Bool} (h:(decide (0<=n)&&decide (n<4))=v) (w:World):
 Calls prog 165 #[int i64 n] w λe w'=>e=.returned (.bool v)/\w'=w:=by
 by_cases a:0<=n
 ·by_cases b:n<4
  ·have e:v=true:=by rw[<-h];simp[a,b]
   subst e;clear h;go_enter func165,ntmps165
   go_wp2_with fail
   go_ret;exact⟨rfl,rfl⟩
  ·have e:v=false:=by rw[<-h];simp[b]
   subst e;clear h;go_enter func165,ntmps165
   go_wp2_with fail
   go_ret;exact⟨rfl,rfl⟩
 ·have e:v=false:=by rw[<-h];simp[a]
  subst e;clear h;go_enter func165,ntmps165
  go_wp2_with fail
  go_ret;exact⟨rfl,rfl⟩
theorem jdi {w:World} {id:Int} (b:List Value) (d:b=[int i64 id,int i64 0,int i64 0,int i64 0,int i64 0,int i64 0,int i64 0,.slice none 0 0,.map (some w.heap.size),int i64 0,int i64 0,int i64 0,int i64 0,int i64 0,int i64 0,int i64 0,int i64 0,int i64 0,int i64 0,int i64 0,int i64 0,int i64 0,int i64 0,int i64 0,int i64 0,.slice none 0 0,.slice none 0 0,.slice none 0 0,.slice none 0 0,.slice none 0 0,.slice none 0 0,.slice none 0 0,.slice none 0 0]) (T:TypeId):
 PS ((w.alloc (.map #[] 0)).alloc (.cells b.toArray T)) (w.heap.size+1) (λk=>k=w.heap.size+1\/k=w.heap.size) (qpo id):=by
 have hs:(w.alloc (.map #[] 0)).heap.size=w.heap.size+1:=by simp
 have R:=qag.new (w:=w.alloc (.map #[] 0)) (T:=T) (n:=w.heap.size+1) b hs
 generalize f:(w.alloc (.map #[] 0)).alloc (.cells b.toArray T)=W at R
 have hb:=boxed (Below.refl _ (w.alloc (.map #[] 0))) (.cells b.toArray T);rw[f]at hb;have l:=(qlg.made w).kept (hb.block _ (qlg.made w).lt);subst d;refine⟨.slice none 0 0,w.heap.size,λk=>qkn (w.heap.size+1) (λ_=>.slice none 0 0) k,[],[],⟨⟨λj v c=>?_,λj a=>R.free j (by simp[qck]at a ⊢;omega),R.lt⟩,?_,World.ownsRow_nil _ _ _ _,l,by simp[Value.ownBlock],by omega,by simp[Value.ownBlock],λk e=>by simp[Value.ownBlock]at e,?_,by simp⟩,rfl,rfl,λk=>?_⟩
 ·refine R.cell j v ?_
  have a:j<25:=by
   have:=(List.getElem?_eq_some_iff.1 c).1;simpa[qck]using this
  rw[<-c]
  match j,a with
  |0,_=>rfl
  |1,_=>rfl
  |2,_=>rfl
  |3,_=>rfl
  |4,_=>rfl
  |5,_=>rfl
  |6,_=>rfl
  |7,_=>rfl
  |8,_=>rfl
  |9,_=>rfl
  |10,_=>rfl
  |11,_=>rfl
  |12,_=>rfl
  |13,_=>rfl
  |14,_=>rfl
  |15,_=>rfl
  |16,_=>rfl
  |17,_=>rfl
  |18,_=>rfl
  |19,_=>rfl
  |20,_=>rfl
  |21,_=>rfl
  |22,_=>rfl
  |23,_=>rfl
  |24,_=>rfl
 ·refine⟨λ_=>.slice none 0 0,λ_=>[],⟨⟨λj v c=>?_,λj a=>R.free (25+j) (by simp at a ⊢;omega),R.lt⟩,λk _=>World.ownsRow_nil _ _ _ _,λk _=>?_,λk _=>by simp[Value.ownBlock],λi j _ _ _ g e=>by simp[Value.ownBlock]at e⟩,?_,λk=>Iff.rfl⟩
  ·refine R.cell (25+j) v ?_;rw[<-c]
   have a:j<8:=by
        have:=(List.getElem?_eq_some_iff.1 c).1;simpa using this
   match j,a with
   |0,_=>rfl
   |1,_=>rfl
   |2,_=>rfl
   |3,_=>rfl
   |4,_=>rfl
   |5,_=>rfl
   |6,_=>rfl
   |7,_=>rfl
  ·exact List.Pairwise.nil
  ·exact⟨λk _=>by simp[qlh,qpo],λx o=>by simp[qpo]at o⟩
 ·rintro (h|⟨i,hi,h⟩)
  ·omega
  ·simp[Value.ownBlock]at h
 ·constructor
  ·rintro (h|h)
   ·exact .inl (.inl h)
   ·exact .inl (.inr (.inr (.inl h)))
  ·rintro ((h|h|h|h)|⟨m,p,h⟩)
   ·exact .inl h
   ·simp[Value.ownBlock]at h
   ·exact .inr h
   ·rcases h with h|⟨i,hi,h⟩
    ·exact .inl h
    ·simp[Value.ownBlock]at h
   ·simp at p
theorem jal (id:Int) (w:World) (a:0<=id) (b:id<4):
 Calls prog 117 #[int i64 id] w λe w'=>(e=.returned (.tuple #[.pointer (some ⟨w.heap.size+1,0,none⟩),.nilIface]))/\PS w' (w.heap.size+1) (λk=>k=w.heap.size+1\/k=w.heap.size) (qpo id)/\Below w.heap.size w w':=by
 have c:=qra (n:=id) (v:=true) (by simp[a,b]) w;have d:=@run_makeMap prog;go_enter func117,ntmps117
 go_wp2_with fail
 refine c.mono ?_;rintro e w2 ⟨rfl,rfl⟩
 go_wp2_with fail
 exact bodyPost_ret (v:=.tuple #[.pointer (some ⟨w2.heap.size+1,0,none⟩),.nilIface]) (by simp[results,results117,go_sem]) rfl ⟨rfl,jdi _ rfl _,boxed (boxed (Below.refl _ _) _) _⟩
def qbs (S:qaf) (k:Nat) (x0 x1 x2 x3:Int):qaf:={S with oth:=λj=>if j=k*4 then qb9 (S.oth j) x0 else if j=k*4+1 then qb9 (S.oth j) x1 else if j=k*4+2 then qb9 (S.oth j) x2 else if j=k*4+3 then qb9 (S.oth j) x3 else S.oth j}
end
section
open Go.RowKit
inductive GrB
 |tx (t:TxP)
 |ask (site a0 a1 a2 a3:Int)
structure GrS where
 to:Nat
 body:GrB
structure WoS where
 n:Nat
 c:Nat
 S:Nat->qaf
 wall:Nat->Int
 ses:Nat->qbn
 at_:Nat->Nat
 net:List GrS
 lost:Int
def qcg {α:Type} (f:Nat->α) (i:Nat) (x:α):Nat->α:=λj=>if j=i then x else f j
variable {α:Type}
theorem qam (f:Nat->α) (i:Nat) (x:α):qcg f i x i=x:=by simp[qcg]
theorem qby (f:Nat->α) {i j:Nat} (x:α) (h:j≠i):qcg f i x j=f j:=by simp[qcg,h]
def qhk (n c:Nat):WoS:=⟨n,c,λi=>qpo i,λ_=>0,λ_=>qia,λ_=>0,[],0⟩
def setSite (W:WoS) (i:Nat) (S':qaf):WoS:={W with S:=qcg W.S i S'}
def qb1 (W:WoS) (k:Nat) (s':qbn):WoS:={W with ses:=qcg W.ses k s'}
def qdd (W:WoS) (g:GrS):WoS:=if 300<=W.net.length then {W with lost:=wrap64 (W.lost+1)}else {W with net:=W.net++[g]}
def qec (t:TxP):Nat->WoS->WoS
 |0,W=>W
 |k+1,W=>if (k:Int)=t.site then qec t k W else qdd (qec t k W) ⟨k,.tx t⟩
def qch (other:Nat):List TxP->WoS->WoS
 |[],W=>W
 |t::l,W=>qch other l (if t.site=(other:Int)then W else qdd W ⟨other,.tx t⟩)
def qdy (W:WoS) (k other:Nat) (v0 v1 v2 v3:Int):WoS:=
 qch other (qhm (W.S k) v0 v1 v2 v3) (setSite W k (qbs (W.S k) other v0 v1 v2 v3))
def qvm (W:WoS) (k other:Nat):WoS:=qdd W ⟨other,.ask k (W.S k).a0 (W.S k).a1 (W.S k).a2 (W.S k).a3⟩
def qhb (W:WoS) (g:GrS) (W':WoS):Prop:=
 match g.body with
 |.tx t=>∃S',qb8 (W.S g.to) t S'/\W'=setSite W g.to S'
 |.ask site v0 v1 v2 v3=>if 0<=site/\site<(W.n:Int)then W'=qdy W g.to site.toNat v0 v1 v2 v3 else W'=W
def qdh (W:WoS) (i:Nat):WoS:={W with net:=W.net.eraseIdx i}
def qcj (W:WoS) (i:Nat) (W':WoS):Prop:=∃g,W.net[i]?=some g/\qhb (qdh W i) g W'
inductive qcy:WoS->WoS->Prop
 |none {W:WoS}:W.net=[]->qcy W W
 |step {W W1 W':WoS}:W.net≠[]->qcj W 0 W1->qcy W1 W'->qcy W W'
inductive qgj (k:Nat):Nat->WoS->WoS->Prop
 |zero {W:WoS}:qgj k 0 W W
 |self {W W':WoS} {m:Nat}:qgj k m W W'->m=k->qgj k (m+1) W W'
 |ask {W W1 W':WoS} {m:Nat}:qgj k m W W1->m≠k->qcy (qvm W1 k m) W'->qgj k (m+1) W W'
inductive qfg:Nat->WoS->WoS->Prop
 |zero {W:WoS}:qfg 0 W W
 |next {W W1 W':WoS} {m:Nat}:qfg m W W1->qgj m W1.n W1 W'->qfg (m+1) W W'
def qkx (W W':WoS):Prop:=∃W1,qcy W W1/\qfg W1.n W1 W'
variable {x:GrS}
section
variable {W W':WoS} {g:GrS} {t:TxP} {k other:Nat}
structure qk1 (W W':WoS):Prop where
 n:W'.n=W.n
 c:W'.c=W.c
 S:W'.S=W.S
 wall:W'.wall=W.wall
 ses:W'.ses=W.ses
 at_:W'.at_=W.at_
theorem qk1.refl (W:WoS):qk1 W W:=⟨rfl,rfl,rfl,rfl,rfl,rfl⟩
theorem qk1.trans {A B C:WoS} (h:qk1 A B) (k:qk1 B C):qk1 A C:=⟨k.n.trans h.n,k.c.trans h.c,k.S.trans h.S,k.wall.trans h.wall,k.ses.trans h.ses,k.at_.trans h.at_⟩
theorem qbk (W:WoS) (g:GrS):qk1 W (qdd W g):=by
 unfold qdd
 split<;>exact⟨rfl,rfl,rfl,rfl,rfl,rfl⟩
theorem q5k (h:W.net.length<300):(qdd W g).net=W.net++[g]:=by
 unfold qdd;rw[if_neg (by omega)]
theorem qlw (h:x∈(qdd W g).net):x∈W.net\/x=g:=by
 unfold qdd at h;split at h
 ·exact .inl h
 ·simpa using h
theorem qce (t:TxP):∀(k:Nat) (W:WoS),qk1 W (qec t k W)
 |0,W=>qk1.refl W
 |k+1,W=>by
  unfold qec;split
  ·exact qce t k W
  ·exact(qce t k W).trans (qbk _ _)
theorem qoo:∀(k:Nat),x∈(qec t k W).net->x∈W.net\/(x.to<k/\x.body=.tx t)
 |0,h=>.inl h
 |k+1,h=>by
  unfold qec at h;split at h
  ·rcases qoo k h with q|⟨q,r⟩
   ·exact .inl q
   ·exact .inr ⟨by omega,r⟩
  ·rcases qlw h with q|q
   ·rcases qoo k q with q|⟨q,r⟩
    ·exact .inl q
    ·exact .inr ⟨by omega,r⟩
   ·rw[q];exact .inr ⟨by show k<k+1;omega,rfl⟩
theorem qfd (other:Nat):∀(l:List TxP) (W:WoS),qk1 W (qch other l W)
 |[],W=>qk1.refl W
 |t::l,W=>by
  unfold qch;refine qk1.trans ?_ (qfd other l _);split
  ·exact qk1.refl _
  ·exact qbk _ _
theorem qqs:∀(l:List TxP) (W:WoS),x∈(qch other l W).net->x∈W.net\/(x.to=other/\∃t∈l,t.site≠(other:Int)/\x.body=.tx t)
 |[],W,h=>.inl h
 |t::l,W,h=>by
  unfold qch at h;rcases qqs l _ h with q|⟨q,y,a,r⟩
  ·split at q
   ·exact .inl q
   ·rename_i b;rcases qlw q with q|q
    ·exact .inl q
    ·rw[q];exact .inr ⟨rfl,t,List.mem_cons_self,b,rfl⟩
  ·exact .inr ⟨q,y,List.mem_cons_of_mem _ a,r⟩
end
end
section
open Go.RowKit
def qi8 (b:Nat) (S:qaf):qnm:=⟨λw G=>PS w b G S,λ_ _ h=>h.lt,λ_ _ _ h=>h.kept⟩
end
section
open Go.RowKit Go.Maps
def wrV (x:Wr):Value:=.agg #[.int .i64 x.key,.string x.data,.bool x.gone]
def jdu:Value:=.agg #[.int .i64 0,.string ⟨#[]⟩,.bool false]
theorem jay (w:World):(zeroValue 100).run Tryz.prog w=.ok jdu w:=by kernel_rfl
theorem qxy:Keyed Tryz.prog 3:=int_keyed Tryz.underlying3
theorem q9y {k:Int} (h:wfI k):keyOf Tryz.prog 3 (.int .i64 k)=some (.int .i64 k):=by
 unfold keyOf;rw[Tryz.underlying3];simp[mapKey,jds h,Tryz.underlying3]
theorem q41 (k:Int):WideAt.IsKeyLit (.int .i64 k):=trivial
structure qqp (D:DataW Value) (l:List Wr):Prop where
 size:Maps.size D=(qb6 l).length
 has:∀k x,qf1 l k=some x->Maps.has D (.int .i64 k)=true/\∀z,D.atKey (.int .i64 k) z=.held (wrV x)
 no:∀k,qf1 l k=none->Maps.has D (.int .i64 k)=false/\∀z,D.atKey (.int .i64 k) z=z
def qli (w:World) (bm:Nat) (l:List Wr):Prop:=(∀x∈l,0<=x.key/\x.key<8)/\∃D,w.ownsMap Tryz.prog 3 qe3 bm (qb6 l).length D/\qqp D l
variable {w:World} {bm:Nat} {l:List Wr}
theorem qli.lt (h:qli w bm l):bm<w.heap.size:=by
 obtain⟨_,D,h,_⟩:=h;exact h.lt
variable {w':World}
theorem qli.kept (h:qli w bm l) (e:w'.heap[bm]?=w.heap[bm]?):qli w' bm l:=by
 obtain⟨a,D,⟨es,b,hb,r⟩,c⟩:=h;exact⟨a,D,⟨es,b,by rw[e];exact hb,r⟩,c⟩
theorem qli.made (w:World):qli (w.alloc (.map #[] 0)) w.heap.size []:=
 ⟨by simp,_,World.ownsMap_made w _ _ _,⟨rfl,λk x h=>by simp[qf1]at h,λ_ _=>⟨rfl,λ_=>rfl⟩⟩⟩
theorem qr2 (l:List Wr) (x:Wr) (a:0<=x.key) (b:x.key<8):(qb6 (l++[x])).length=if qf1 l x.key=none then (qb6 l).length+1 else (qb6 l).length:=by
 have:=qpy l x 8 a
 show (qed (l++[x]) 8).length=if qf1 l x.key=none then (qed l 8).length+1 else (qed l 8).length
 rw[this];by_cases h:qf1 l x.key=none
 ·rw[if_pos ⟨by omega,h⟩,if_pos h]
 ·rw[if_neg (λe=>h e.2),if_neg h];omega
variable {D:DataW Value} {x:Wr}
theorem q1l (f:Tidy D) (h:qqp D l) (g:0<=x.key) (i:x.key<8):qqp (D.put (.int .i64 x.key) (.held (wrV x))) (l++[x]):=by
 refine⟨?_,λk y a=>?_,λk c=>?_⟩
 ·rw[size_put f,qr2 l x g i,h.size];cases ho:qf1 l x.key with
  |none=>rw[(h.no _ ho).1];simp
  |some y=>rw[(h.has _ _ ho).1];simp
 ·rw[qn8]at a;by_cases e:x.key=k
  ·rw[if_pos e]at a;injection a with a;subst a;subst e;exact⟨has_put_same f.isMap (q41 _) _,λz=>atKey_put_same f.isMap (q41 _) _ z⟩
  ·rw[if_neg e]at a;have d:(Lit.int .i64 k)≠.int .i64 x.key:=λb=>e (by injection b with _ b;exact b.symm);exact⟨by rw[has_put_other d];exact(h.has k y a).1,λz=>by rw[atKey_put_other d];exact(h.has k y a).2 z⟩
 ·rw[qn8]at c;by_cases e:x.key=k
  ·rw[if_pos e]at c;cases c
  ·rw[if_neg e]at c;have d:(Lit.int .i64 k)≠.int .i64 x.key:=λb=>e (by injection b with _ b;exact b.symm);exact⟨by rw[has_put_other d];exact(h.no k c).1,λz=>by rw[atKey_put_other d];exact(h.no k c).2 z⟩
theorem qli.put {n:Nat} (e:∀x∈l,0<=x.key/\x.key<8) (f:w.ownsMap Tryz.prog 3 qe3 bm (qb6 l).length D) (g:qqp D l) (a:0<=x.key) (b:x.key<8)
 (i:w'.ownsMap Tryz.prog 3 qe3 bm n (D.put (.int .i64 x.key) (.held (wrV x)))):qli w' bm (l++[x]):=by
 have c:=q1l (f.tidy qxy) g a b;refine⟨λy j=>?_,_,?_,c⟩
 ·rcases List.mem_append.1 j with h|h
  ·exact e y h
  ·rw[List.mem_singleton.1 h];exact⟨a,b⟩
 ·obtain⟨es,k,m,o,p,d⟩:=i;refine⟨es,k,m,o,?_,d⟩;have:=c.size;rw[d]at this;simp[Maps.size,length_sorted]at this;omega
end
section
open Go.RowKit
variable {l:List Wr}
theorem jbk {i:Nat} {x:Wr} {key:Int} (h:l[i]?=some x) (c:x.key=key) (d:∀j y,i<j->l[j]?=some y->y.key≠key):qf1 l key=some x:=by
 have f:i<l.length:=(List.getElem?_eq_some_iff.1 h).1
 have e:l=l.take i++(x::l.drop (i+1)):=by
  have a:=List.take_append_drop i l;rw[List.drop_eq_getElem_cons f]at a;have g:l[i]=x:=(List.getElem?_eq_some_iff.1 h).2;rw[g]at a;exact a.symm
 have k:(l.drop (i+1)).reverse.find? (λx=>decide (x.key=key))=none:=by
  rw[List.find?_eq_none];intro y m;obtain⟨j,b⟩:=List.getElem?_of_mem (List.mem_reverse.1 m);rw[List.getElem?_drop]at b;have:=d (i+1+j) y (by omega) b;simpa using this
 unfold qf1;rw[e,List.reverse_append,List.reverse_cons,List.append_assoc,List.find?_append,k];simp[c]
theorem q25 {key:Int} (a:∀(j:Nat) (y:Wr),l[j]?=some y->y.key≠key):qf1 l key=none:=by
 unfold qf1;rw[List.find?_eq_none];intro y b;obtain⟨j,c⟩:=List.getElem?_of_mem (List.mem_reverse.1 b);have:=a j y c;simpa using this
def qeg (l:List Wr) (key:Int):Wr:=(qf1 l key).getD ⟨0,⟨#[]⟩,false⟩
def qbw (s:qbn) (wv:Value):List Value:=[.int .i64 s.p0,.int .i64 s.p1,.int .i64 s.p2,.int .i64 s.p3,.int .i64 s.s0,.int .i64 s.s1,.int .i64 s.s2,.int .i64 s.s3,.bool s.opn,wv]
structure qmo (w:World) (b:Nat) (wv:Value) (s:qbn):Prop where
 box:qag w b (qbw s wv)
 row:w.ownsRow 0 100 3 wv s.ws.length (qhp s.ws)
 nb:wv.ownBlock≠some b
theorem qmo.later {w w':World} {b:Nat} {wv:Value} {s:qbn} (h:qmo w b wv s) (hb:Below w.heap.size w w'):qmo w' b wv s:=⟨h.box.later hb,qad h.row (λk e=>hb.block k (h.row.lt k e).2),h.nb⟩
end
section
open Go.RowKit Go.Maps
variable {b:Nat} {G:Nat->Prop} {S:qaf}
theorem PS.mem {w:World} (h:PS w b G S):∃lv bm F log waits,qd0 w b lv bm F S log waits/\log.length=S.log.length/\waits.length=S.waits.length:=by
 obtain⟨lv,bm,F,log,waits,h,a,c,_⟩:=h;exact⟨lv,bm,F,log,waits,h,by rw[<-a];simp,by rw[<-c];simp⟩
theorem qcx.many (h:qcx S):S.l.length<=1000:=by
 have:=h.len;have:=h.log;omega
theorem qgq (w:World) (h:PS w b G S):
 Calls Tryz.prog 143 #[.pointer (some ⟨b,0,none⟩)] w λe w'=>e=.returned (.agg #[.int .i64 S.a0,.int .i64 S.a1,.int .i64 S.a2,.int .i64 S.a3])/\Below w.heap.size w w':=by
 obtain⟨lv,bm,F,log,waits,a,_,_⟩:=h.mem;have c:=a.box.cell 1 _ rfl;have d:=a.box.cell 2 _ rfl;have g:=a.box.cell 3 _ rfl;have i:=a.box.cell 4 _ rfl;have j:=a.box.lt;clear a h;go_enter Tryz.func143,Tryz.ntmps143
 go_wp2_with fail
 exact bodyPost_ret (v:=.agg #[.int .i64 S.a0,.int .i64 S.a1,.int .i64 S.a2,.int .i64 S.a3]) (by simp[results,Tryz.results143,go_sem]) rfl ⟨rfl,boxed (Below.refl _ _) _⟩
end
section
open Go.Value Go.IntKind Go.RowKit
def qcf (s:qbn) (mv:Value):List Value:=[int i64 s.p0,int i64 s.p1,int i64 s.p2,int i64 s.p3,.bool s.opn,int i64 s.s0,int i64 s.s1,int i64 s.s2,int i64 s.s3,mv]
def jed (w:World) (b:Nat) (s:qbn) (mv:Value) (G:Nat->Prop):Prop:=
 (s.opn=false/\mv=.map none/\s.ws=[]/\∀k,G k↔k=b)\/(s.opn=true/\∃bm,mv=.map (some bm)/\bm≠b/\qli w bm s.ws/\∀k,G k↔(k=b\/k=bm))
def PSe (w:World) (b:Nat) (G:Nat->Prop) (s:qbn):Prop:=∃mv,qag w b (qcf s mv)/\jed w b s mv G
variable {w:World} {b:Nat} {G:Nat->Prop} {s:qbn}
theorem PSe.lt (h:PSe w b G s):∀k,G k->k<w.heap.size:=by
 obtain⟨mv,d,⟨_,_,_,a⟩|⟨_,bm,_,_,f,a⟩⟩:=h
 ·intro k c;rw[(a k).1 c];exact d.lt
 ·intro k c;rcases(a k).1 c with e|e
  ·rw[e];exact d.lt
  ·rw[e];exact f.lt
theorem PSe.own (h:PSe w b G s):G b:=by
 obtain⟨mv,c,⟨_,_,_,a⟩|⟨_,bm,_,_,d,a⟩⟩:=h
 ·exact(a b).2 rfl
 ·exact(a b).2 (.inl rfl)
variable {w':World}
theorem PSe.kept (h:PSe w b G s) (e:∀k,G k->w'.heap[k]?=w.heap[k]?) (hs:w.heap.size<=w'.heap.size):PSe w' b G s:=by
 have g:=h.own;obtain⟨mv,i,⟨a,f,c,d⟩|⟨a,bm,f,c,j,d⟩⟩:=h
 ·exact⟨mv,i.kept (e b g) hs,.inl ⟨a,f,c,d⟩⟩
 ·exact⟨mv,i.kept (e b g) hs,.inr ⟨a,bm,f,c,j.kept (e bm ((d bm).2 (.inr rfl))),d⟩⟩
theorem PSe.later (h:PSe w b G s) (hb:Below w.heap.size w w'):PSe w' b G s:=h.kept (λk a=>hb.block k (h.lt k a)) hb.size
def qr3 (b:Nat) (s:qbn):qnm:=⟨λw G=>PSe w b G s,λ_ _ h=>h.lt,λ_ _ _ h=>h.kept⟩
def qi2 (w:World) (b:Nat) (G:Nat->Prop) (s':qbn) (w':World):Prop:=∃G',PSe w' b G' s'/\(∀k,G' k->G k\/w.heap.size<=k)/\qae G w w'
theorem qi2.same (h:PSe w b G s) (hb:Below w.heap.size w w'):qi2 w b G s w':=⟨G,h.later hb,λ_ a=>.inl a,qae.ofBelow hb⟩
variable {w2:World} {G1:Nat->Prop}
theorem qi2.trans {a:World} {c:qbn} (d:∀k,G1 k->G k\/w.heap.size<=k) (e:qae G w a) (h:qi2 a b G1 c w2):qi2 w b G c w2:=by
 obtain⟨g,i,j,l⟩:=h;refine⟨g,i,λk m=>?_,e.more l d⟩;rcases j k m with f|f
 ·exact d k f
 ·exact .inr (by have:=e.size;omega)
theorem q99 (T:TypeId):PSe (w.alloc (.cells (qcf qia (.map none)).toArray T)) w.heap.size (λk=>k=w.heap.size) qia:=
 ⟨.map none,qag.new (w:=w) (T:=T) _ rfl,.inl ⟨rfl,rfl,rfl,λ_=>Iff.rfl⟩⟩
variable {mv:Value}
theorem ja8 (a:G b) (hb:Below w.heap.size w w2) (B:qag w2 b (qcf s mv)) (x0 x1 x2 x3:Int):
 qi2 w b G ⟨x0,x1,x2,x3,false,0,0,0,0,[]⟩ ((((((((((w2.setCell ⟨b,0,none⟩ (int i64 x0)).setCell ⟨b,1,none⟩ (int i64 x1)).setCell ⟨b,2,none⟩ (int i64 x2)).setCell ⟨b,3,none⟩ (int i64 x3)).setCell ⟨b,4,none⟩ (.bool false)).setCell ⟨b,5,none⟩ (int i64 0)).setCell ⟨b,6,none⟩ (int i64 0)).setCell ⟨b,7,none⟩ (int i64 0)).setCell ⟨b,8,none⟩ (int i64 0)).setCell ⟨b,9,none⟩ (.map none)):=by
 have c:=B.set 0 (int i64 x0) (by simp[qcf]);have d:=c.set 1 (int i64 x1) (by simp[qcf]);have e:=d.set 2 (int i64 x2) (by simp[qcf]);have f:=e.set 3 (int i64 x3) (by simp[qcf]);have g:=f.set 4 (.bool false) (by simp[qcf]);have h:=g.set 5 (int i64 0) (by simp[qcf]);have i:=h.set 6 (int i64 0) (by simp[qcf]);have j:=i.set 7 (int i64 0) (by simp[qcf]);have l:=j.set 8 (int i64 0) (by simp[qcf]);have m:=l.set 9 (.map none) (by simp[qcf]);refine⟨λk=>k=b,⟨.map none,m,.inl ⟨rfl,rfl,rfl,λ_=>Iff.rfl⟩⟩,λk n=>.inl (by rw[n];exact a),?_⟩;have T:=qae.ofBelow (F:=G) hb;refine T.trans ?_;exact(((((((((qae.setCell _ _ _ a).trans (qae.setCell _ _ _ a)).trans (qae.setCell _ _ _ a)).trans (qae.setCell _ _ _ a)).trans (qae.setCell _ _ _ a)).trans (qae.setCell _ _ _ a)).trans (qae.setCell _ _ _ a)).trans (qae.setCell _ _ _ a)).trans (qae.setCell _ _ _ a)).trans (qae.setCell _ _ _ a)
theorem q6b {bm:Nat} (a:G b) (hb:Below w.heap.size w w2) (B:qag w2 b (qcf s mv)) (d:qli w2 bm []) (n:w.heap.size<=bm) (o:b<w.heap.size) (a0 a1 a2 a3:Int):
 qi2 w b G {s with opn:=true,s0:=a0,s1:=a1,s2:=a2,s3:=a3,ws:=[]} ((((((w2.setCell ⟨b,4,none⟩ (.bool true)).setCell ⟨b,5,none⟩ (int i64 a0)).setCell ⟨b,6,none⟩ (int i64 a1)).setCell ⟨b,7,none⟩ (int i64 a2)).setCell ⟨b,8,none⟩ (int i64 a3)).setCell ⟨b,9,none⟩ (.map (some bm))):=by
 have e:=B.set 4 (.bool true) (by simp[qcf]);have f:=e.set 5 (int i64 a0) (by simp[qcf]);have g:=f.set 6 (int i64 a1) (by simp[qcf]);have i:=g.set 7 (int i64 a2) (by simp[qcf]);have j:=i.set 8 (int i64 a3) (by simp[qcf]);have l:=j.set 9 (.map (some bm)) (by simp[qcf])
 have c:bm≠b:=by omega
 refine⟨λk=>k=b\/k=bm,⟨.map (some bm),l,.inr ⟨rfl,bm,rfl,c,d.kept ?_,λ_=>Iff.rfl⟩⟩,λk m=>?_,?_⟩
 ·rw[Below.heap_setCell _ _ _ _ c,Below.heap_setCell _ _ _ _ c,Below.heap_setCell _ _ _ _ c,Below.heap_setCell _ _ _ _ c,Below.heap_setCell _ _ _ _ c,Below.heap_setCell _ _ _ _ c]
 ·rcases m with h|h
  ·exact .inl (by rw[h];exact a)
  ·exact .inr (by omega)
 ·have T:=qae.ofBelow (F:=G) hb;refine T.trans ?_;exact(((((qae.setCell _ _ _ a).trans (qae.setCell _ _ _ a)).trans (qae.setCell _ _ _ a)).trans (qae.setCell _ _ _ a)).trans (qae.setCell _ _ _ a)).trans (qae.setCell _ _ _ a)
theorem q6r (h:PSe w2 b G1 s) (d:∀k,G1 k->G k\/w.heap.size<=k) (e:G b) (f:qae G w w2) (n:Nat) (g:n<4) (x:Int):
 qi2 w b G {s with p0:=if n=0 then x else s.p0,p1:=if n=1 then x else s.p1,p2:=if n=2 then x else s.p2,p3:=if n=3 then x else s.p3} (w2.setCell ⟨b,n,none⟩ (int i64 x)):=by
 obtain⟨mv,B,i⟩:=h;have R:=B.set n (int i64 x) (by simp[qcf];omega);refine⟨G1,⟨mv,?_,?_⟩,d,f.trans (qae.setCell _ _ _ e)⟩
 ·match n,g with
  |0,_=>exact R
  |1,_=>exact R
  |2,_=>exact R
  |3,_=>exact R
 ·rcases i with j|⟨a,bm,l,c,m,o⟩
  ·exact .inl j
  ·exact .inr ⟨a,bm,l,c,m.kept (Below.heap_setCell _ _ _ _ c),o⟩
end
section
open Go.RowKit
def q42 (b:Nat) (x:Int):List Value:=[.pointer (some ⟨b,0,none⟩),.int .i64 x]
def qc2 (bp:Nat->Nat) (x:Nat->Int) (n:Nat):List Value:=(List.range n).flatMap (λi=>q42 (bp i) (x i))
structure GrM where
 g:GrS
 blk:Nat
 cap:Nat
 S:ByteArray
def qvz (m:GrM):List Value:=[.int .i64 m.g.to,.slice (some ⟨m.blk,0,none⟩) m.S.size m.cap]
def qgu (l:List GrM):List Value:=l.flatMap qvz
def txv (t:TxP):TxV:=⟨t.site,t.seq,t.wall,t.count,t.d0,t.d1,t.d2,t.d3,t.ws⟩
def jc8 (L:List UInt8):GrB->Prop
 |.tx t=>qv3 L (txv t)
 |.ask site a0 a1 a2 a3=>qeb L ⟨site,a0,a1,a2,a3⟩
structure GrM.Ok (w:World) (m:GrM):Prop where
 own:Own w 0 m.blk m.cap m.S
 size:m.S.size<=1000000
 is:jc8 (toL m.S) m.g.body
variable {w:World} {m:GrM}
theorem GrM.Ok.kept {w':World} (h:m.Ok w) (hb:w'.heap[m.blk]?=w.heap[m.blk]?) (hs:w.heap.size<=w'.heap.size):m.Ok w':=⟨h.own.kept hb hs,h.size,h.is⟩
theorem qls {α:Type} (f:α->List Value) (a:∀x,(f x).length=2):∀(l:List α) (i r:Nat) (x:α) (u:Value),l[i]?=some x->(f x)[r]?=some u->(l.flatMap f)[i*2+r]?=some u
 |[],i,r,x,u,h,_=>by simp at h
 |y::l,0,r,x,u,h,hu=>by
  have e:y=x:=by simpa using h
  subst e
  have c:r<2:=by have:=(List.getElem?_eq_some_iff.1 hu).1;rw[a]at this;exact this
  rw[List.flatMap_cons,Nat.zero_mul,Nat.zero_add,List.getElem?_append_left (by rw[a];exact c)];exact hu
 |y::l,i+1,r,x,u,h,hu=>by
  have d:l[i]?=some x:=by simpa using h
  rw[List.flatMap_cons,List.getElem?_append_right (by rw[a];omega),a,show (i+1)*2+r-2=i*2+r by omega];exact qls f a l i r x u d hu
variable {n i:Nat}
theorem qf5 {bp:Nat->Nat} {x:Nat->Int} (hi:i<n):(qc2 bp x n)[i*2]?=some (.pointer (some ⟨bp i,0,none⟩))/\(qc2 bp x n)[i*2+1]?=some (.int .i64 (x i)):=
 ⟨qls _ (λ_=>rfl) _ i 0 i _ (List.getElem?_range hi) rfl,qls _ (λ_=>rfl) _ i 1 i _ (List.getElem?_range hi) rfl⟩
theorem qyt {l:List GrM} (hi:l[i]?=some m):(qgu l)[i*2]?=some (.int .i64 m.g.to)/\(qgu l)[i*2+1]?=some (.slice (some ⟨m.blk,0,none⟩) m.S.size m.cap):=
 ⟨qls _ (λ_=>rfl) _ i 0 m _ hi rfl,qls _ (λ_=>rfl) _ i 1 m _ hi rfl⟩
theorem qll (bp:Nat->Nat) (x:Nat->Int):∀n,(qc2 bp x n).length=n*2
 |0=>rfl
 |n+1=>by
  unfold qc2;rw[List.range_succ,List.flatMap_append,List.length_append];have:=qll bp x n;unfold qc2 at this;rw[this];simp[q42];omega
theorem qir (l:List GrM):(qgu l).length=l.length*2:=by
 induction l with
 |nil=>rfl
 |cons x l ih=>
  show (qvz x++qgu l).length=_;rw[List.length_append,ih];simp[qvz];omega
structure jd4 (w:World) (a:Option Addr) (cap n:Nat) (L:List Value):Prop where
 len:n<=cap
 cap:cap<=9223372036854775807
 held:n=0\/∃g,a=some ⟨g,0,none⟩/\g<w.heap.size/\∀j u,L[j]?=some u->w.cell? ⟨g,j,none⟩=some u
variable {k:Nat}
theorem qai {B:Nat} {T:TypeId} {v:Value} {L:List Value} (h:w.ownsRow B T k v n L):∃a cap,v=.slice a n cap/\jd4 w a cap n L:=by
 have c:=h;rcases h.2 with ⟨rfl,d⟩|⟨g,cap,cur,rfl,hb,p,f,l,hs,q⟩
 ·exact⟨none,0,by rw[d],⟨by omega,by omega,.inl d⟩⟩
 ·refine⟨_,cap,rfl,⟨f,by simp only[maxLen]at l;omega,.inr ⟨g,rfl,(c.lt g rfl).2,λj u o=>?_⟩⟩⟩;have e:=c.cells (g:=g) rfl j u o;rw[qc7]at e;exact e
structure WoM where
 pv:Value
 cv:Value
 nv:Value
 bp:Nat->Nat
 bs:Nat->Nat
 l:List GrM
def qiu (b:Nat) (M:WoM) (k:Nat):Prop:=k=b\/M.pv.ownBlock=some k\/M.cv.ownBlock=some k\/M.nv.ownBlock=some k\/∃m∈M.l,m.blk=k
def qe0 (M:WoM) (W:WoS):Nat->qnm:=λi=>if i<W.n then qi8 (M.bp i) (W.S i)else qr3 (M.bs (i-W.n)) (W.ses (i-W.n))
structure PWo (w:World) (b:Nat) (M:WoM) (W:WoS) (Gs:Nat->Nat->Prop):Prop where
 box:qag w b [M.pv,M.cv,M.nv,.int .i64 W.lost]
 pr:w.ownsRow 0 167 2 M.pv W.n (qc2 M.bp W.wall W.n)
 cr:w.ownsRow 0 171 2 M.cv W.c (qc2 M.bs (λk=>(W.at_ k:Int)) W.c)
 nr:w.ownsRow 0 205 2 M.nv M.l.length (qgu M.l)
 nl:M.l.map (·.g)=W.net
 gr:∀m∈M.l,m.Ok w
 fam:qci w (W.n+W.c) (qe0 M W) Gs (qiu b M) (W.n+W.c) NoY
 sb:M.pv.ownBlock≠some b/\M.cv.ownBlock≠some b/\M.nv.ownBlock≠some b
 sr:∀k,(M.pv.ownBlock=some k->M.cv.ownBlock≠some k/\M.nv.ownBlock≠some k)/\(M.cv.ownBlock=some k->M.nv.ownBlock≠some k)
 sg:∀m∈M.l,m.blk≠b/\M.pv.ownBlock≠some m.blk/\M.cv.ownBlock≠some m.blk/\M.nv.ownBlock≠some m.blk
section
variable {w w':World} {b:Nat} {M:WoM} {W:WoS} {Gs:Nat->Nat->Prop}
theorem PWo.site (h:PWo w b M W Gs) (hi:i<W.n):PS w (M.bp i) (Gs i) (W.S i):=by
 have:=h.fam.is i (by omega);unfold qe0 at this;rw[if_pos hi]at this;exact this
theorem PWo.sess (h:PWo w b M W Gs) (a:k<W.c):PSe w (M.bs k) (Gs (W.n+k)) (W.ses k):=by
 have:=h.fam.is (W.n+k) (by omega);unfold qe0 at this;rw[if_neg (by omega),show W.n+k-W.n=k by omega]at this;exact this
theorem PWo.keep (h:PWo w b M W Gs) {W':WoS} {d:Nat->Nat->Prop} (a:qba (qiu b M) w w') (l:qci w' (W.n+W.c) (qe0 M W') d (qiu b M) (W.n+W.c) NoY) (f:W'.n=W.n) (g:W'.c=W.c) (o:W'.wall=W.wall) (p:W'.at_=W.at_) (et:W'.net=W.net) (q:W'.lost=W.lost):PWo w' b M W' d:=by
 refine⟨?_,?_,?_,qad h.nr (λk e=>a.block k (.inr (.inr (.inr (.inl e))))),by rw[et];exact h.nl,λm j=>(h.gr m j).kept (a.block _ (.inr (.inr (.inr (.inr ⟨m,j,rfl⟩))))) a.size,by rw[f,g];exact l,h.sb,h.sr,h.sg⟩
 ·rw[q];exact h.box.keeps a (.inl rfl)
 ·rw[f,o];exact qad h.pr (λk e=>a.block k (.inr (.inl e)))
 ·rw[g,p];exact qad h.cr (λk e=>a.block k (.inr (.inr (.inl e))))
end
def ql7 (b:Nat) (M:WoM) (N:Nat) (Gs:Nat->Nat->Prop) (k:Nat):Prop:=qiu b M k\/∃i,i<N/\Gs i k
def PW (w:World) (b:Nat) (G:Nat->Prop) (W:WoS):Prop:=∃M Gs,PWo w b M W Gs/\∀k,G k↔ql7 b M (W.n+W.c) Gs k
section
variable {w w':World} {b:Nat} {G:Nat->Prop} {M:WoM} {W:WoS} {Gs:Nat->Nat->Prop}
theorem PWo.ltF (h:PWo w b M W Gs):∀k,qiu b M k->k<w.heap.size:=λk a=>(h.fam.free k a).1
theorem PWo.ltG (h:PWo w b M W Gs) (hi:i<W.n+W.c) (a:Gs i k):k<w.heap.size:=(qe0 M W i).lt _ _ (h.fam.is i hi) k a
theorem PW.lt (h:PW w b G W):∀k,G k->k<w.heap.size:=by
 obtain⟨M,Gs,h,a⟩:=h;intro k c;rcases(a k).1 c with q|⟨i,hi,q⟩
 ·exact h.ltF k q
 ·exact h.ltG hi q
theorem PW.kept (h:PW w b G W) (d:∀k,G k->w'.heap[k]?=w.heap[k]?) (hs:w.heap.size<=w'.heap.size):PW w' b G W:=by
 obtain⟨M,Gs,h,c⟩:=h;have a:∀k,qiu b M k->w'.heap[k]?=w.heap[k]?:=λk q=>d k ((c k).2 (.inl q));refine⟨M,Gs,⟨h.box.kept (a b (.inl rfl)) hs,qad h.pr (λk e=>a k (.inr (.inl e))),qad h.cr (λk e=>a k (.inr (.inr (.inl e)))),qad h.nr (λk e=>a k (.inr (.inr (.inr (.inl e))))),h.nl,λm f=>(h.gr m f).kept (a _ (.inr (.inr (.inr (.inr ⟨m,f,rfl⟩))))) hs,h.fam.to (λj k g e=>d k ((c k).2 (.inr ⟨j,g,e⟩))) hs (λk e=>⟨.inl e,Nat.lt_of_lt_of_le (h.ltF k e) hs⟩),h.sb,h.sr,h.sg⟩,c⟩
theorem PW.later (h:PW w b G W) (hb:Below w.heap.size w w'):PW w' b G W:=h.kept (λk a=>hb.block k (h.lt k a)) hb.size
end
def woP (b:Nat) (W:WoS):qnm:=⟨λw G=>PW w b G W,λ_ _ h=>h.lt,λ_ _ _ h=>h.kept⟩
def qd8 (w:World) (b:Nat) (G:Nat->Prop) (W':WoS) (w':World):Prop:=qg0 (woP b W') w G w'
section
variable {w w':World} {b:Nat} {G:Nat->Prop} {M:WoM} {W:WoS} {Gs:Nat->Nat->Prop}
theorem qd8.same (h:PW w b G W) (hb:Below w.heap.size w w'):qd8 w b G W w':=⟨G,h.later hb,λ_ a=>.inl a,qae.ofBelow hb⟩
theorem PWo.stepS (h:PWo w b M W Gs) (d:∀k,G k↔ql7 b M (W.n+W.c) Gs k) (hi:i<W.n) {S':qaf} (t:PPo w (M.bp i) (Gs i) S' w'):qd8 w b G (setSite W i S') w':=by
 obtain⟨o,f,g,kp,a⟩:=h.fam.stepG (ps':=qe0 M (setSite W i S')) (i:=i) (by omega) (p:=qi8 (M.bp i) S') t (by show (if i<W.n then _ else _)=_;rw[if_pos hi];show qi8 (M.bp i) (qcg W.S i S' i)=_;rw[qam]) (λj s u=>by
  show (if j<W.n then qi8 (M.bp j) (qcg W.S i S' j)else _)=(if j<W.n then _ else _);rw[qby _ _ u]
  rfl)
 refine⟨ql7 b M (W.n+W.c) o,⟨M,o,h.keep kp f rfl rfl rfl rfl rfl rfl,λ_=>Iff.rfl⟩,λk l=>?_,⟨a.os,a.tape,a.output,a.size,λk l v=>a.block k l (λe=>v ((d k).2 (.inr ⟨i,by omega,e⟩)))⟩⟩;rcases l with q|⟨j,s,q⟩
 ·exact .inl ((d k).2 (.inl q))
 ·rcases g j k q with r|r
  ·exact .inl ((d k).2 (.inr ⟨j,s,r⟩))
  ·exact .inr r
theorem PWo.stepC (h:PWo w b M W Gs) (l:∀k,G k↔ql7 b M (W.n+W.c) Gs k) (hi:i<W.c) {a:qbn} (u:qi2 w (M.bs i) (Gs (W.n+i)) a w'):qd8 w b G (qb1 W i a) w':=by
 obtain⟨s,f,g,kp,d⟩:=h.fam.stepG (ps':=qe0 M (qb1 W i a)) (i:=W.n+i) (by omega) (p:=qr3 (M.bs i) a) u (by show (if W.n+i<W.n then _ else _)=_;rw[if_neg (by omega)];show qr3 (M.bs (W.n+i-W.n)) (qcg W.ses i a (W.n+i-W.n))=_;rw[show W.n+i-W.n=i by omega,qam]) (λj t x=>by
  show (if j<W.n then _ else qr3 (M.bs (j-W.n)) (qcg W.ses i a (j-W.n)))=(if j<W.n then _ else _);by_cases q:j<W.n
  ·rw[if_pos q,if_pos q];rfl
  ·rw[if_neg q,if_neg q,qby _ _ (by omega)])
 refine⟨ql7 b M (W.n+W.c) s,⟨M,s,h.keep kp f rfl rfl rfl rfl rfl rfl,λ_=>Iff.rfl⟩,λk o=>?_,⟨d.os,d.tape,d.output,d.size,λk o v=>d.block k o (λe=>v ((l k).2 (.inr ⟨W.n+i,by omega,e⟩)))⟩⟩;rcases o with q|⟨j,t,q⟩
 ·exact .inl ((l k).2 (.inl q))
 ·rcases g j k q with r|r
  ·exact .inl ((l k).2 (.inr ⟨j,t,r⟩))
  ·exact .inr r
end
end
section
open Tryz Go.Value Go.IntKind Go.RowKit
theorem q3h (w:World):Calls prog 118 #[] w λe w'=>e=.returned (.pointer (some ⟨w.heap.size,0,none⟩))/\PSe w' w.heap.size (λk=>k=w.heap.size) qia/\Below w.heap.size w w':=by
 go_enter func118,ntmps118
 go_wp2_with fail
 go_ret;exact⟨rfl,q99 _,boxed (Below.refl _ w) _⟩
variable {b:Nat} {G:Nat->Prop} {s:qbn}
theorem qou (w:World) (h:PSe w b G s):
 Calls prog 149 #[.pointer (some ⟨b,0,none⟩)] w λe w'=>e=.returned (.bool s.opn)/\Below w.heap.size w w':=by
 obtain⟨a,B,_⟩:=h;have c:=B.cell 4 _ rfl;clear B;go_enter func149,ntmps149
 go_wp2_with fail
 go_ret;exact⟨rfl,Below.refl _ _⟩
theorem qpi {f:Func} {tmps:Array Value} {w:World} {x0 x1 x2 x3:Int} (a:f.results=#[.cell 2 77]) (h:qag w b [int i64 x0,int i64 x1,int i64 x2,int i64 x3]) (c:tmps[2]?=some (.pointer (some ⟨b,0,none⟩))):
 (results f tmps).run prog w=.ok (.agg #[int i64 x0,int i64 x1,int i64 x2,int i64 x3]) w:=by
 have z0:=h.cell 0 _ rfl;have d:=h.cell 1 _ rfl;have z2:=h.cell 2 _ rfl;have z3:=h.cell 3 _ rfl;simp[results,a,go_sem,c,z0,d,z2,z3]
theorem q2l (w:World) (h:PSe w b G s):
 Calls prog 147 #[.pointer (some ⟨b,0,none⟩)] w λe w'=>e=.returned (.agg #[int i64 s.p0,int i64 s.p1,int i64 s.p2,int i64 s.p3])/\Below w.heap.size w w':=by
 obtain⟨a,B,_⟩:=h;have c:=B.cell 0 _ rfl;have d:=B.cell 1 _ rfl;have g:=B.cell 2 _ rfl;have i:=B.cell 3 _ rfl;have j:=B.lt;clear B;go_enter func147,ntmps147
 go_wp2_with fail
 exact bodyPost_ret (qpi results147 (qag.new (w:=w) (T:=77) [int i64 s.p0,int i64 s.p1,int i64 s.p2,int i64 s.p3] rfl) rfl) rfl ⟨rfl,boxed (Below.refl _ w) _⟩
theorem qtg (w:World) (h:PSe w b G s):
 Calls prog 148 #[.pointer (some ⟨b,0,none⟩)] w λe w'=>e=.returned (.agg #[int i64 s.s0,int i64 s.s1,int i64 s.s2,int i64 s.s3])/\Below w.heap.size w w':=by
 obtain⟨a,B,_⟩:=h;have c:=B.cell 5 _ rfl;have d:=B.cell 6 _ rfl;have g:=B.cell 7 _ rfl;have i:=B.cell 8 _ rfl;have j:=B.lt;clear B;go_enter func148,ntmps148
 go_wp2_with fail
 exact bodyPost_ret (qpi results148 (qag.new (w:=w) (T:=77) [int i64 s.s0,int i64 s.s1,int i64 s.s2,int i64 s.s3] rfl) rfl) rfl ⟨rfl,boxed (Below.refl _ w) _⟩
theorem qrv (w:World) (h:PSe w b G s):
 Calls prog 200 #[.pointer (some ⟨b,0,none⟩)] w λe w'=>e=.returned (.tuple #[])/\qi2 w b G (qhe s) w':=by
 have i:=h.own;obtain⟨l,B,_⟩:=h;have j:Hid _:=B;have d:Below w.heap.size w w.drew:=(Below.refl _ w).drew;have c:=B.later d;clear B;go_enter func200,ntmps200
 go_wp2_with fail
 have m:=c.cell 0 _ rfl;have n:=c.cell 1 _ rfl;have o:=c.cell 2 _ rfl;have p:=c.cell 3 _ rfl;have q:=c.cell 5 _ rfl;have r:=c.cell 6 _ rfl;have t:=c.cell 7 _ rfl;have u:=c.cell 8 _ rfl
 go_region_law (refine qav rfl 240 #[.agg #[int i64 s.p0,int i64 s.p1,int i64 s.p2,int i64 s.p3],.agg #[int i64 s.s0,int i64 s.s1,int i64 s.s2,int i64 s.s3]] (by go_simp) (q4p s.p0 s.p1 s.p2 s.p3 s.s0 s.s1 s.s2 s.s3 _) ?_
                rintro e wa ⟨rfl,k⟩;refine⟨_,rfl,?_⟩;have g:=qab d k;have a:=j.out.later g;have z0:=a.cell 0 _ rfl;have v:=a.cell 1 _ rfl;have z2:=a.cell 2 _ rfl;have z3:=a.cell 3 _ rfl;have z4:=a.cell 4 _ rfl;have z5:=a.cell 5 _ rfl;have x:=a.cell 6 _ rfl;have y:=a.cell 7 _ rfl;have z:=a.cell 8 _ rfl;have z9:=a.cell 9 _ rfl;have f0:=a.free 0 (by simp[qcf]);have f1:=a.free 1 (by simp[qcf]);have f2:=a.free 2 (by simp[qcf]);have f3:=a.free 3 (by simp[qcf]);have C:=a.free 4 (by simp[qcf]);have D:=a.free 5 (by simp[qcf]);have f6:=a.free 6 (by simp[qcf]);have f7:=a.free 7 (by simp[qcf]);have f8:=a.free 8 (by simp[qcf])
                have f9:=a.free 9 (by simp[qcf]))
 all_goals
  go_wp2_with fail
  go_end0;exact⟨rfl,ja8 i g a _ _ _ _⟩
theorem qzr (w:World) (h:PSe w b G s):
 Calls prog 139 #[.pointer (some ⟨b,0,none⟩)] w λe w'=>e=.returned (qbq (qsu s))/\qi2 w b G (qpr s) w':=by
 have c:Hid _:=h;obtain⟨j,B,_⟩:=h;have d:=B.cell 4 _ rfl;clear B;cases ho:s.opn
 ·rw[ho]at d;have a:Hid (qsu s=6/\qpr s=s):=⟨by unfold qsu;rw[ho];rfl,by unfold qpr;rw[ho];rfl⟩;clear ho;go_enter func139,ntmps139
  go_wp2_with fail
  go_ret;refine⟨by rw[a.out.1];rfl,?_⟩;rw[a.out.2];exact qi2.same c.out (Below.refl _ _)
 ·rw[ho]at d;have a:Hid (qsu s=0/\qpr s=qhe s):=⟨by unfold qsu;rw[ho];rfl,by unfold qpr;rw[ho];rfl⟩;clear ho;have g:=qrv w c.out;go_enter func139,ntmps139
  go_wp2_with fail
  refine g.mono ?_;rintro e k ⟨rfl,i⟩
  go_wp2_with fail
  go_ret;refine⟨by rw[a.out.1];rfl,?_⟩;rw[a.out.2];exact i
theorem q03 {k:Nat} {m:Nat->Prop} {S:qaf} (w:World) (h:PSe w b G s) (j:PS w k m S):
 Calls prog 145 #[.pointer (some ⟨b,0,none⟩),.pointer (some ⟨k,0,none⟩)] w λe w'=>e=.returned (qbq (qps S s))/\qi2 w b G (qpb S s) w':=by
 have t:=h.own;have d:Hid (PSe w b G s/\PS w k m S):=⟨h,j⟩;have y:=Later.one;have z:=@run_makeMap prog;obtain⟨C,B,_⟩:=h;have u:Hid _:=B;have v:Hid _:=B.lt;have l:=B.cell 4 _ rfl;cases ho:s.opn
 ·rw[ho]at l;have l0:=Later.cell (B.cell 0 _ rfl);have l1:=Later.cell (B.cell 1 _ rfl);have l2:=Later.cell (B.cell 2 _ rfl);have l3:=Later.cell (B.cell 3 _ rfl);have n:Hid _:=ho;cases hc:qfu S.a0 S.a1 S.a2 S.a3 s.p0 s.p1 s.p2 s.p3
  ·have g:Hid _:=hc
   have c:Hid (qps S s=10):=by show _=_;unfold qps;rw[n.out,g.out];rfl
   clear j B ho hc;go_enter func145,ntmps145
   go_wp2_with fail
   refine qaa (by kernel_rfl) (by kernel_rfl) ?_
   repeat (go_big_quiet_step (first|rfl|(go_at_call 143;with_reducible exact qac (qgq _ (d.out.2.later (Later.below _))))|(go_at_call 205;with_reducible exact qac (qjq g.out _))))
   refine wpQuiet_nil ?_;rintro w2 ⟨⟨_,i⟩,rfl⟩
   go_wp2_with fail
   go_ret;refine⟨by rw[c.out];rfl,?_⟩;rw[show qpb S s=s by unfold qpb;rw[if_neg (by rw[c.out];decide)]];exact qi2.same d.out.1 i
  ·have g:Hid _:=hc
   have c:Hid (qps S s=0):=by show _=_;unfold qps;rw[n.out,g.out];rfl
   clear j B ho hc;go_enter func145,ntmps145
   go_wp2_with fail
   refine qaa (by kernel_rfl) (by kernel_rfl) ?_
   repeat (go_big_quiet_step (first|rfl|(go_at_call 143;with_reducible exact qac (qgq _ (d.out.2.later (Later.below _))))|(go_at_call 205;with_reducible exact qac (qjq g.out _))))
   refine wpQuiet_nil ?_;rintro w2 ⟨⟨_,i⟩,rfl⟩;clear l l0 l1 l2 l3;have o:=qgq _ (d.out.2.later i)
   go_wp2_with fail
   refine o.mono ?_;rintro e p ⟨rfl,q⟩;have r:=boxed (qab i q) (.map #[] 0);have a:=u.out.later r;have z4:=a.cell 4 _ rfl;have z5:=a.cell 5 _ rfl;have D:=a.cell 6 _ rfl;have E:=a.cell 7 _ rfl;have F:=a.cell 8 _ rfl;have z9:=a.cell 9 _ rfl;have H:=a.free 4 (by simp[qcf]);have I:=a.free 5 (by simp[qcf]);have f6:=a.free 6 (by simp[qcf]);have f7:=a.free 7 (by simp[qcf]);have f8:=a.free 8 (by simp[qcf]);have f9:=a.free 9 (by simp[qcf]);have x:w.heap.size<=p.heap.size:=(qab i q).size;clear o
   go_wp2_with fail
   go_ret;refine⟨by rw[c.out];rfl,?_⟩;rw[show qpb S s={s with opn:=true,s0:=S.a0,s1:=S.a1,s2:=S.a2,s3:=S.a3,ws:=[]} by unfold qpb;rw[if_pos c.out]];exact q6b t r a (qli.made p) x v.out S.a0 S.a1 S.a2 S.a3
 ·rw[ho]at l
  have c:Hid (qps S s=6):=by show _=_;unfold qps;rw[ho];rfl
  clear j B ho;go_enter func145,ntmps145
  go_wp2_with fail
  go_ret;refine⟨by rw[c.out];rfl,?_⟩;rw[show qpb S s=s by unfold qpb;rw[if_neg (by rw[c.out];decide)]];exact qi2.same d.out.1 (Below.refl _ _)
end
section
open Go.Value Go.IntKind Go.RowKit
theorem qus {b:Nat} {G:Nat->Prop} {S:qaf} (now d0 d1 d2 d3:Int) {a:Option Addr} {cap:Nat} {ws:List Wr} (w:World) (h:PS w b G S) (hI:qcx S) (hW:qaz w a cap ws) (hX:∀k aa,ws≠[]->a=some ⟨k,aa,none⟩->¬G k):
 Calls Tryz.prog 206 #[.pointer (some ⟨b,0,none⟩),int i64 now,.agg #[int i64 d0,int i64 d1,int i64 d2,int i64 d3],.slice a ws.length cap] w (qwc w b G S now d0 d1 d2 d3 ws):=by
 have q:=(qa9.new w 77 d0 d1 d2 d3).boxed (.cells #[int i64 0,int i64 0,int i64 0,int i64 0,int i64 0,int i64 0,int i64 0,int i64 0,.slice none 0 0] 102);have c:qag ((w.alloc (.cells #[int i64 d0,int i64 d1,int i64 d2,int i64 d3] 77)).alloc (.cells #[int i64 0,int i64 0,int i64 0,int i64 0,int i64 0,int i64 0,int i64 0,int i64 0,.slice none 0 0] 102)) (w.heap.size+1) txZ:=qag.new (w:=w.alloc (.cells #[int i64 d0,int i64 d1,int i64 d2,int i64 d3] 77)) (T:=102) (n:=w.heap.size+1) [int i64 0,int i64 0,int i64 0,int i64 0,int i64 0,int i64 0,int i64 0,int i64 0,.slice none 0 0] (by simp);have hb:=boxed (boxed (Below.refl _ w) (.cells #[int i64 d0,int i64 d1,int i64 d2,int i64 d3] 77)) (.cells #[int i64 0,int i64 0,int i64 0,int i64 0,int i64 0,int i64 0,int i64 0,int i64 0,.slice none 0 0] 102);have WI:=hW.later hb;have HP:Hid (PS w b G S):=h;have HW:Hid (qaz w a cap ws):=hW;have HX:Hid (∀k aa,ws≠[]->a=some ⟨k,aa,none⟩->¬G k):=hX;have HI:Hid (qcx S):=hI
 have hB:w.heap.size<=w.heap.size+1:=by omega
 have Q:=hI.id0;have R:=hI.id3
 have z:Hid (∀(w9:World) (ev:Int),qnc S now d0 d1 d2 d3 ws=ev->ev≠0->Below w.heap.size w w9->Hid (qwc w b G S now d0 d1 d2 d3 ws (.returned (.tuple #[txV tx0,qbq ev])) w9)):=λw9 ev h1 h2 h3=>by
  refine⟨tx0,G,by rw[h1],?_,⟨⟨Nat.le_refl _,by decide,.inl rfl⟩,?_,λk U=>.inl U,qae.ofBelow h3,λk U=>absurd rfl U.1⟩⟩
  ·unfold qo6;rw[if_neg (by rw[h1];exact h2)];rfl
  ·unfold qmt;rw[if_neg (by rw[h1];exact h2)];exact HP.out.later h3
 clear h hW hX hI;go_enter Tryz.func206,Tryz.ntmps206
 go_wp2_with fail
 refine(qdb WI).mono ?_;rintro e w1 ⟨rfl,hb1⟩;replace q:=q.later hb1;replace c:=c.later hb1;replace hb:=qab hb hb1;clear hb1 WI;cases hok:qe8 ws
 ·have E:Hid (qnc S now d0 d1 d2 d3 ws=1):=by show qa1 _ _ _ _ _ _ _ _=1;unfold qa1;rw[if_pos hok]
  clear hok;have r0:=c.cell 0 _ rfl;have p0:=c.free 0 (by simp[txZ]);have r1:=c.cell 1 _ rfl;have p1:=c.free 1 (by simp[txZ]);have r2:=c.cell 2 _ rfl;have p2:=c.free 2 (by simp[txZ]);have r3:=c.cell 3 _ rfl;have p3:=c.free 3 (by simp[txZ]);have r4:=c.cell 4 _ rfl;have p4:=c.free 4 (by simp[txZ]);have r5:=c.cell 5 _ rfl;have p5:=c.free 5 (by simp[txZ]);have r6:=c.cell 6 _ rfl;have p6:=c.free 6 (by simp[txZ]);have r7:=c.cell 7 _ rfl;have p7:=c.free 7 (by simp[txZ]);have r8:=c.cell 8 _ rfl;have p8:=c.free 8 (by simp[txZ]);have y:=qb3 c rfl 0 0 0 0 0 0 0 0 (.slice none 0 0);have C:=qg3 hb hB 0 0 0 0 0 0 0 0 (.slice none 0 0);have v:=z.out _ 1 E.out (by decide) C;clear z
  go_wp2_with fail
  exact bodyPost_ret (qda (m:=tx0) (ev:=qbq 1) y rfl rfl) rfl v.out
 ·have HOK:Hid (qe8 ws=true):=hok;clear hok;obtain⟨lv,bm,F,log,waits,PM,hl,hw,hG⟩:=HP.out.later hb;have I:Hid (log.map (·.t)=S.log/\waits.map (·.t)=S.waits/\∀k,G k↔(qbb b lv bm F k\/∃m∈log++waits,m.blk k)):=⟨hl,hw,hG⟩
  have hll:log.length=S.log.length:=by rw[<-hl];simp
  have J:Hid (qd0 w1 b lv bm F S log waits):=PM;clear PM hl hw hG;have c0:=Later.cell q.c0;have c1:=Later.cell q.c1;have c2:=Later.cell q.c2;have c3:=Later.cell q.c3;have k1:=Later.cell (J.out.box.cell 1 _ rfl);have k2:=Later.cell (J.out.box.cell 2 _ rfl);have k3:=Later.cell (J.out.box.cell 3 _ rfl);have k4:=Later.cell (J.out.box.cell 4 _ rfl);cases hv:qay d0 d1 d2 d3
  ·have L:Hid (qay d0 d1 d2 d3=false):=hv
   have E:Hid (qnc S now d0 d1 d2 d3 ws=10):=by show qa1 _ _ _ _ _ _ _ _=10;unfold qa1;rw[if_neg (by rw[HOK.out];decide),if_pos hv]
   clear hv
   go_wp2_with fail
   refine qaa (by kernel_rfl) (by kernel_rfl) ?_
   repeat (go_big_quiet_step (first|rfl|(go_at_call 203;with_reducible exact qac (qcr L.out _))))
   refine wpQuiet_nil ?_;rintro w2 ⟨⟨_,u⟩,rfl⟩;replace c:=c.later u;replace hb:=qab hb u;clear u c0 c1 c2 c3 k1 k2 k3 k4 J;have r0:=c.cell 0 _ rfl;have p0:=c.free 0 (by simp[txZ]);have r1:=c.cell 1 _ rfl;have p1:=c.free 1 (by simp[txZ]);have r2:=c.cell 2 _ rfl;have p2:=c.free 2 (by simp[txZ]);have r3:=c.cell 3 _ rfl;have p3:=c.free 3 (by simp[txZ]);have r4:=c.cell 4 _ rfl;have p4:=c.free 4 (by simp[txZ]);have r5:=c.cell 5 _ rfl;have p5:=c.free 5 (by simp[txZ]);have r6:=c.cell 6 _ rfl;have p6:=c.free 6 (by simp[txZ]);have r7:=c.cell 7 _ rfl;have p7:=c.free 7 (by simp[txZ]);have r8:=c.cell 8 _ rfl;have p8:=c.free 8 (by simp[txZ]);have y:=qb3 c rfl 0 0 0 0 0 0 0 0 (.slice none 0 0);have C:=qg3 hb hB 0 0 0 0 0 0 0 0 (.slice none 0 0);have v:=z.out _ 10 E.out (by decide) C;clear z
   go_wp2_with fail
   exact bodyPost_ret (qda (m:=tx0) (ev:=qbq 10) y rfl rfl) rfl v.out
  ·have L:Hid (qay d0 d1 d2 d3=true):=hv;clear hv;cases hc:qfu S.a0 S.a1 S.a2 S.a3 d0 d1 d2 d3
   ·have HC:Hid (qfu S.a0 S.a1 S.a2 S.a3 d0 d1 d2 d3=false):=hc
    have E:Hid (qnc S now d0 d1 d2 d3 ws=10):=by show qa1 _ _ _ _ _ _ _ _=10;unfold qa1;rw[if_neg (by rw[HOK.out];decide),if_neg (by rw[L.out];decide),if_pos hc]
    clear hc
    go_wp2_with fail
    refine qaa (by kernel_rfl) (by kernel_rfl) ?_
    repeat (go_big_quiet_step (first|rfl|(go_at_call 203;with_reducible exact qac (qcr L.out _))|(go_at_call 205;with_reducible exact qac (qjq HC.out _))))
    refine wpQuiet_nil ?_;rintro w2 ⟨⟨_,u⟩,rfl⟩;replace c:=c.later u;replace hb:=qab hb u;clear u c0 c1 c2 c3 k1 k2 k3 k4 J;have r0:=c.cell 0 _ rfl;have p0:=c.free 0 (by simp[txZ]);have r1:=c.cell 1 _ rfl;have p1:=c.free 1 (by simp[txZ]);have r2:=c.cell 2 _ rfl;have p2:=c.free 2 (by simp[txZ]);have r3:=c.cell 3 _ rfl;have p3:=c.free 3 (by simp[txZ]);have r4:=c.cell 4 _ rfl;have p4:=c.free 4 (by simp[txZ]);have r5:=c.cell 5 _ rfl;have p5:=c.free 5 (by simp[txZ]);have r6:=c.cell 6 _ rfl;have p6:=c.free 6 (by simp[txZ]);have r7:=c.cell 7 _ rfl;have p7:=c.free 7 (by simp[txZ]);have r8:=c.cell 8 _ rfl;have p8:=c.free 8 (by simp[txZ]);have y:=qb3 c rfl 0 0 0 0 0 0 0 0 (.slice none 0 0);have C:=qg3 hb hB 0 0 0 0 0 0 0 0 (.slice none 0 0);have v:=z.out _ 10 E.out (by decide) C;clear z
    go_wp2_with fail
    exact bodyPost_ret (qda (m:=tx0) (ev:=qbq 10) y rfl rfl) rfl v.out
   ·have HC:Hid (qfu S.a0 S.a1 S.a2 S.a3 d0 d1 d2 d3=true):=hc;clear hc
    go_wp2_with fail
    refine qaa (by kernel_rfl) (by kernel_rfl) ?_
    repeat (go_big_quiet_step (first|rfl|(go_at_call 203;with_reducible exact qac (qcr L.out _))|(go_at_call 205;with_reducible exact qac (qjq HC.out _))))
    refine wpQuiet_nil ?_;rintro w2 ⟨⟨_,u⟩,rfl⟩;replace c:=c.later u;replace q:=q.later u;replace hb:=qab hb u;have M2:Hid (qd0 w2 b lv bm F S log waits):=J.out.later u;clear u c0 c1 c2 c3 k1 k2 k3 k4 J;by_cases B:200<=log.length
    ·have E:Hid (qnc S now d0 d1 d2 d3 ws=12):=by show qa1 _ _ _ _ _ _ _ _=12;unfold qa1;rw[if_neg (by rw[HOK.out];decide),if_neg (by rw[L.out];decide),if_neg (by rw[HC.out];decide),if_pos (by omega)]
     have IF:=qgd (decide_eq_true B) w2 M2.out;clear B hll
     go_wp2_with fail
     refine IF.mono ?_;rintro e w3 ⟨rfl,H⟩;replace c:=c.later H;replace hb:=qab hb H;clear H M2;have r0:=c.cell 0 _ rfl;have p0:=c.free 0 (by simp[txZ]);have r1:=c.cell 1 _ rfl;have p1:=c.free 1 (by simp[txZ]);have r2:=c.cell 2 _ rfl;have p2:=c.free 2 (by simp[txZ]);have r3:=c.cell 3 _ rfl;have p3:=c.free 3 (by simp[txZ]);have r4:=c.cell 4 _ rfl;have p4:=c.free 4 (by simp[txZ]);have r5:=c.cell 5 _ rfl;have p5:=c.free 5 (by simp[txZ]);have r6:=c.cell 6 _ rfl;have p6:=c.free 6 (by simp[txZ]);have r7:=c.cell 7 _ rfl;have p7:=c.free 7 (by simp[txZ]);have r8:=c.cell 8 _ rfl;have p8:=c.free 8 (by simp[txZ]);have y:=qb3 c rfl 0 0 0 0 0 0 0 0 (.slice none 0 0);have C:=qg3 hb hB 0 0 0 0 0 0 0 0 (.slice none 0 0);have v:=z.out _ 12 E.out (by decide) C;clear z
     go_wp2_with fail
     exact bodyPost_ret (qda (m:=tx0) (ev:=qbq 12) y rfl rfl) rfl v.out
    ·have IF:=qgd (decide_eq_false B) w2 M2.out;obtain⟨⟨nw,g,ne⟩,hnx⟩:∃x,qfp S.lw S.lc now=x:=⟨_,rfl⟩
     have HN:Hid (qnc S now d0 d1 d2 d3 ws=ne):=by show qa1 _ _ _ _ _ _ _ _=ne;unfold qa1;rw[if_neg (by rw[HOK.out];decide),if_neg (by rw[L.out];decide),if_neg (by rw[HC.out];decide),if_neg (by omega),hnx]
     have HNX:Hid (qfp S.lw S.lc now=(nw,g,ne)):=hnx
     have HF:Hid (S.log.length<200):=by show _<_;omega
     clear B hnx hll
     go_wp2_with fail
     refine IF.mono ?_;rintro e w3 ⟨rfl,H⟩;replace c:=c.later H;replace q:=q.later H;replace hb:=qab hb H;have M3:Hid (qd0 w3 b lv bm F S log waits):=M2.out.later H;clear H M2;have k5:=M3.out.box.cell 5 _ rfl;have k6:=M3.out.box.cell 6 _ rfl
     go_wp2_with fail
     refine(q7l HNX.out _).mono ?_;rintro e w4 ⟨rfl,V⟩;have HSZ:Hid (w.heap.size+1<w4.heap.size):=(c.later V).lt;replace c:=(c.later V).boxed (.cells #[int i64 nw,int i64 g] 79);replace q:=(q.later V).boxed (.cells #[int i64 nw,int i64 g] 79);replace hb:=boxed (qab hb V) (.cells #[int i64 nw,int i64 g] 79);have RS:=qag.new (w:=w4) (T:=79) [int i64 nw,int i64 g] rfl;have M4:Hid (qd0 (w4.alloc (.cells #[int i64 nw,int i64 g] 79)) b lv bm F S log waits):=M3.out.later (boxed V _);clear V M3 k5 k6;by_cases hne:ne=0
     rotate_left
     ·have ee:qbq ne=.iface 26 (int i64 ne):=by unfold qbq;rw[if_neg hne]
      rw[ee];have HEE:Hid (qbq ne=.iface 26 (int i64 ne)):=ee;clear ee;have r0:=c.cell 0 _ rfl;have p0:=c.free 0 (by simp[txZ]);have r1:=c.cell 1 _ rfl;have p1:=c.free 1 (by simp[txZ]);have r2:=c.cell 2 _ rfl;have p2:=c.free 2 (by simp[txZ]);have r3:=c.cell 3 _ rfl;have p3:=c.free 3 (by simp[txZ]);have r4:=c.cell 4 _ rfl;have p4:=c.free 4 (by simp[txZ]);have r5:=c.cell 5 _ rfl;have p5:=c.free 5 (by simp[txZ]);have r6:=c.cell 6 _ rfl;have p6:=c.free 6 (by simp[txZ]);have r7:=c.cell 7 _ rfl;have p7:=c.free 7 (by simp[txZ]);have r8:=c.cell 8 _ rfl;have p8:=c.free 8 (by simp[txZ]);have y:=qb3 c rfl 0 0 0 0 0 0 0 0 (.slice none 0 0);have C:=qg3 hb hB 0 0 0 0 0 0 0 0 (.slice none 0 0);have v:=z.out _ ne HN.out hne C;rw[HEE.out]at v;clear z
      go_wp2_with fail
      exact bodyPost_ret (qda (m:=tx0) y rfl rfl) rfl v.out
     ·subst hne;rw[show qbq 0=.nilIface from rfl];obtain⟨D,hD⟩:∃D,qaq S.id S.a0 S.a1 S.a2 S.a3=D:=⟨_,rfl⟩;have hd:=HI.out.dep S.id;rw[hD]at hd;have hwr:=qfq hd
      have HCT0:qcd S now d0 d1 d2 d3 ws=⟨S.id,D+1,nw,g,qh4 S.id D d0,qhq S.id D d1,qhs S.id D d2,qh6 S.id D d3,ws⟩:=by unfold qcd;rw[hD,HNX.out]
      obtain⟨CI,w15,HF2,ho⟩:=qqy HI.out HN.out;have HL5:Hid (1<=ws.length/\ws.length<=5):=⟨w15,HF2⟩
      go_wp2_with fail
      obtain⟨M,hW4⟩:∃M,w4.alloc (.cells #[int i64 nw,int i64 g] 79)=M:=⟨_,rfl⟩;rw[hW4]at c q hb RS M4 ⊢;clear hW4 HF2 ho w15;have k0:=M4.out.box.cell 0 _ rfl;have W:=M4.out.box.cell _ _ (qqr Q R);rw[hD]at W;have v1:=qoz q Q R;have v2:=qx8 q Q R
      have hi4:S.id<4:=by omega
      have HD:Hid (qaq S.id S.a0 S.a1 S.a2 S.a3=D):=hD;have HGS:Hid (∀k,G k->k<w.heap.size):=HP.out.lt
      have nb:b≠w.heap.size:=by have:=HGS.out b ((I.out.2.2 b).2 (.inl (.inl rfl)));omega
      clear hD
      go_region
      have K:=(q2s q Q R D).drew;have RT5:=(c.far ⟨w.heap.size,S.id.toNat,none⟩ (int i64 D) (by simp)).drew;have RS5:=(RS.far ⟨w.heap.size,S.id.toNat,none⟩ (int i64 D) (by have:=HSZ.out;simp only;omega)).drew;have hb5:=(hb.setCell (p:=⟨w.heap.size,S.id.toNat,none⟩) (Nat.le_refl _) (int i64 D)).drew;have P5:Hid (PS (M.setCell ⟨w.heap.size,S.id.toNat,none⟩ (int i64 D)).drew b G S):=HP.out.later hb5;obtain⟨d,hW5⟩:∃d,(M.setCell ⟨w.heap.size,S.id.toNat,none⟩ (int i64 D)).drew=d:=⟨_,rfl⟩;rw[hW5]at K RT5 RS5 hb5 P5 ⊢;obtain⟨r,he0⟩:∃x,qh4 S.id D d0=x:=⟨_,rfl⟩;obtain⟨i,he1⟩:∃x,qhq S.id D d1=x:=⟨_,rfl⟩;obtain⟨j,he2⟩:∃x,qhs S.id D d2=x:=⟨_,rfl⟩;obtain⟨s,he3⟩:∃x,qh6 S.id D d3=x:=⟨_,rfl⟩;rw[he0,he1,he2,he3]at K HCT0;have HCT:Hid (qcd S now d0 d1 d2 d3 ws=⟨S.id,D+1,nw,g,r,i,j,s,ws⟩):=HCT0
      have M5:Hid (qd0 d b lv bm F S log waits):=by
          have hbb:Below M.heap.size M M:=Below.refl _ _
          have:=M4.out.kept (w':=d) (λk U=>by
           rw[<-hW5];have hkk:k<w.heap.size:=HGS.out k ((I.out.2.2 k).2 U)
           exact Below.heap_setCell _ _ _ _ (by simp only;omega)) (by rw[<-hW5];simp[World.setCell,World.drew])
          exact this
      clear hW5 he0 he1 he2 he3 HCT0 q c RS hb M4 k0 W v1 v2;have k0:=M5.out.box.cell 0 _ rfl;have W:=M5.out.box.cell _ _ (qqr Q R);rw[HD.out]at W;have y0:=RS5.cell 0 _ rfl;have y1:=RS5.cell 1 _ rfl;have v0:=K.c0;have v1:=K.c1;have v2:=K.c2;have v3:=K.c3;have l1:=M5.out.box.lt;have l2:=RS5.lt;have l3:=K.lt;have Y0:=λ(w':World) (h:Below d.heap.size d w')=>cell_later h k0;have Y1:=λ(w':World) (h:Below d.heap.size d w')=>cell_later h W;have Y2:=λ(w':World) (h:Below d.heap.size d w')=>cell_later h y0;have Y3:=λ(w':World) (h:Below d.heap.size d w')=>cell_later h y1;have Y4:=λ(w':World) (h:Below d.heap.size d w')=>cell_later h v0;have Y5:=λ(w':World) (h:Below d.heap.size d w')=>cell_later h v1;have Y6:=λ(w':World) (h:Below d.heap.size d w')=>cell_later h v2;have Y7:=λ(w':World) (h:Below d.heap.size d w')=>cell_later h v3;have hb50:=(Below.refl d.heap.size d).drew;clear k0 W y0 y1 v0 v1 v2 v3
      go_wp2_with fail
      go_region_held3 (λw'=>Below d.heap.size d w') (repeat (first|(with_reducible assumption)|(with_reducible exact Below.refl _ _)|(with_reducible refine boxed ?_ _)|(with_reducible refine Below.drew ?_)|(refine Below.setCell ?_ (Nat.le_refl _) _))) (fail)
      have hw2:IntKind.i64.wrap (D+1)=D+1:=by rw[<-qfq hd];unfold wrap64 IntKind.wrap;simp[IntKind.signed,IntKind.bits];omega
      all_goals
          rw[hw2];clear hw2;have hx6:=boxed (Below.refl _ d) (.cells #[int i64 S.id,int i64 (D+1),int i64 nw,int i64 g,int i64 r,int i64 i,int i64 j,int i64 s,.slice a ws.length cap] 102);have X:=(qag.new (w:=d) (T:=102) [int i64 S.id,int i64 (D+1),int i64 nw,int i64 g,int i64 r,int i64 i,int i64 j,int i64 s,.slice a ws.length cap] rfl).drew;change qag (d.alloc (.cells #[int i64 S.id,int i64 (D+1),int i64 nw,int i64 g,int i64 r,int i64 i,int i64 j,int i64 s,.slice a ws.length cap] 102)).drew d.heap.size [int i64 S.id,int i64 (D+1),int i64 nw,int i64 g,int i64 r,int i64 i,int i64 j,int i64 s,.slice a ws.length cap]at X;have RT6:=(RT5.later hx6).drew;have hb6:=(qab hb5 hx6).drew;have M6:Hid (qd0 (d.alloc (.cells #[int i64 S.id,int i64 (D+1),int i64 nw,int i64 g,int i64 r,int i64 i,int i64 j,int i64 s,.slice a ws.length cap] 102)).drew b lv bm F S log waits):=(M5.out.later hx6).later (Below.refl _ _).drew;have HS6:Hid (w.heap.size+1<d.heap.size/\d.heap.size<(d.alloc (.cells #[int i64 S.id,int i64 (D+1),int i64 nw,int i64 g,int i64 r,int i64 i,int i64 j,int i64 s,.slice a ws.length cap] 102)).drew.heap.size):=⟨RT5.lt,X.lt⟩;obtain⟨W6,hW6⟩:∃W6,(d.alloc (.cells #[int i64 S.id,int i64 (D+1),int i64 nw,int i64 g,int i64 r,int i64 i,int i64 j,int i64 s,.slice a ws.length cap] 102)).drew=W6:=⟨_,rfl⟩;rw[hW6]at X RT6 hb6 M6 HS6 ⊢;clear hW6 hx6 Y0 Y1 Y2 Y3 Y4 Y5 Y6 Y7 hb50 l1 l2 l3 RS5 K RT5 hb5 M5 P5;obtain⟨x0,x1,x2,x3,x4,x5,x6,x7,x8⟩:=X.c9;have CP:=qib ⟨⟨S.id,D+1,nw,g,r,i,j,s,ws⟩,a,cap⟩ W6 (HW.out.later hb6) HL5.out.1 (by have:=HL5.out;simp only;omega);simp only[txV]at CP
          have HLL:Hid (log.length=S.log.length):=by show _=_;rw[<-I.out.1];simp
          go_wp2_with fail
          refine CP.mono ?_;rintro e N ⟨O,Y,rfl,W71,hk1,Z⟩;have HM1:Hid (O.t=⟨S.id,D+1,nw,g,r,i,j,s,ws⟩/\qaz N O.wa O.wc O.t.ws/\∀k,O.blk k->W6.heap.size<=k):=⟨Y,W71,hk1⟩
          have AP:=qtw O N (M6.out.later Z) ⟨W71,λk e B=>by
           have q1:=hk1 k e;have q2:=M6.out.lt k B
           omega⟩ (by rw[Y];exact Q) (by rw[Y];exact R) (by rw[Y];have q1:=HI.out.len;have q2:=HF.out;have q3:=HL5.out;show S.l.length+ws.length<=1000;omega) (by have q1:=HLL.out;have q2:=HF.out;omega)
          have RX7:=X.later Z;have RT7:=RT6.later Z;have HB7:Hid (Below w.heap.size w N/\W6.heap.size<=N.heap.size):=⟨qab hb6 Z,Z.size⟩;clear W71 hk1 Z X RT6 x0 x1 x2 x3 x4 x5 x6 x7 x8 CP;obtain⟨t1,wa1,wc1⟩:=O;simp only at Y;subst Y
          go_wp2_with fail
          refine AP.mono ?_;rintro e w8 ⟨rfl,lv',F',PM8,nf8,P⟩
          have nfx:∀k,w.heap.size<=k->¬qbb b lv bm F k:=λk U B=>by
           have:=HGS.out k ((I.out.2.2 k).2 (.inl B));omega
          have RX8:=RX7.kept (P.block _ RX7.lt (nfx _ (by have:=HS6.out;omega))) P.size;have RT8:=RT7.kept (P.block _ RT7.lt (nfx _ (by omega))) P.size
          have W8:qaz w8 a cap ws:=qaz.kept (m:=⟨⟨S.id,D+1,nw,g,r,i,j,s,ws⟩,a,cap⟩) (w:=N) (HW.out.later HB7.out.1) (λk e=>P.block k (qaz.blk_lt (m:=⟨⟨S.id,D+1,nw,g,r,i,j,s,ws⟩,a,cap⟩) (HW.out.later HB7.out.1) k e) (λB=>by
           obtain⟨i,aa,j⟩:=e
           exact HX.out k aa i j ((I.out.2.2 k).2 (.inl B))))
          have HQ8:Hid (qd0 w8 b lv' bm F' (qcb S ⟨S.id,D+1,nw,g,r,i,j,s,ws⟩) (log++[⟨⟨S.id,D+1,nw,g,r,i,j,s,ws⟩,wa1,wc1⟩]) waits/\(∀k,qbb b lv' bm F' k->qbb b lv bm F k\/N.heap.size<=k)/\qae (qbb b lv bm F) N w8):=⟨PM8,nf8,P⟩;have CP2:=qib ⟨⟨S.id,D+1,nw,g,r,i,j,s,ws⟩,a,cap⟩ w8 W8 HL5.out.1 (by have:=HL5.out;simp only;omega);simp only[txV]at CP2;clear PM8 nf8 P nfx W8 RX7 RT7 AP;obtain⟨x0,x1,x2,x3,x4,x5,x6,x7,x8⟩:=RX8.c9
          go_wp2_with fail
          refine CP2.mono ?_;rintro e w9 ⟨m2,hm2,rfl,W92,hk2,hb9⟩;obtain⟨t2,wa2,wc2⟩:=m2;simp only at hm2 W92;subst hm2;have o:=RT8.later hb9;have v:=qy0 (wa2:=wa2) (wc2:=wc2) HP.out HB7.out.1 (by have:=HS6.out;have:=HB7.out.2;omega) HQ8.out.1 HQ8.out.2.1 HQ8.out.2.2 (λk e=>by have:=HM1.out.2.2 k e;have:=HS6.out;omega) I.out.1 I.out.2.1 I.out.2.2 hb9 W92 (λk e=>⟨by have:=hk2 k e;have:=HS6.out;have:=HB7.out.2;have:=HQ8.out.2.2.size;omega,hk2 k e⟩) (by rw[HCT.out]) HN.out;clear hk2 hb9 W92 RX8 RT8 x0 x1 x2 x3 x4 x5 x6 x7 x8 CP2 HQ8 HM1;simp only[txV];have r0:=o.cell 0 _ rfl;have p0:=o.free 0 (by simp[txZ]);have r1:=o.cell 1 _ rfl;have p1:=o.free 1 (by simp[txZ]);have r2:=o.cell 2 _ rfl;have p2:=o.free 2 (by simp[txZ]);have r3:=o.cell 3 _ rfl;have p3:=o.free 3 (by simp[txZ]);have r4:=o.cell 4 _ rfl;have p4:=o.free 4 (by simp[txZ]);have r5:=o.cell 5 _ rfl;have p5:=o.free 5 (by simp[txZ]);have r6:=o.cell 6 _ rfl;have p6:=o.free 6 (by simp[txZ]);have r7:=o.cell 7 _ rfl;have p7:=o.free 7 (by simp[txZ]);have r8:=o.cell 8 _ rfl;have p8:=o.free 8 (by simp[txZ]);have y:=qb3 o rfl S.id (D+1) nw g r i j s (.slice wa2 ws.length wc2)
          go_wp2_with fail
          exact bodyPost_ret (qda (m:=⟨⟨S.id,D+1,nw,g,r,i,j,s,ws⟩,wa2,wc2⟩) y rfl rfl) rfl v.out
end
section
open Go.Value Go.IntKind Go.RowKit
variable {b:Nat}
theorem qmf {tmps:Array Value} {w:World} {v:Ver} {ev:Value} (h:qag w b (qah v)) (a:tmps[6]?=some (.pointer (some ⟨b,0,none⟩))) (c:tmps[7]?=some ev):
 (results Tryz.f216 tmps).run Tryz.prog w=.ok (.tuple #[.agg (qah v).toArray,ev]) w:=by
 obtain⟨z0,d,z2,z3,z4,z5⟩:=h.c6;simp[results,Tryz.results216,go_sem,a,c,z0,d,z2,z3,z4,z5,qah]
theorem q50 {lv:Value} {bm:Nat} {F:Nat->Prop} {S:qaf} {log waits:List TxM} (key a0 a1 a2 a3:Int) (w:World) (h:qd0 w b lv bm F S log waits) (o:qcx S):
 Calls Tryz.prog 216 #[.pointer (some ⟨b,0,none⟩),int i64 key,.agg #[int i64 a0,int i64 a1,int i64 a2,int i64 a3]] w λe w'=>
  e=.returned (.tuple #[.agg (qah (qfe S key a0 a1 a2 a3).1).toArray,qbq (qfe S key a0 a1 a2 a3).2])/\Below w.heap.size w w':=by
 have d:=(qa9.new w 77 a0 a1 a2 a3).boxed (.cells #[int i64 0,int i64 0,int i64 0,int i64 0,.string ⟨#[]⟩,.bool false] 130);have a:qag ((w.alloc (.cells #[int i64 a0,int i64 a1,int i64 a2,int i64 a3] 77)).alloc (.cells #[int i64 0,int i64 0,int i64 0,int i64 0,.string ⟨#[]⟩,.bool false] 130)) (w.heap.size+1) (qah qc6):=qag.new (w:=w.alloc (.cells #[int i64 a0,int i64 a1,int i64 a2,int i64 a3] 77)) (T:=130) (n:=w.heap.size+1) [int i64 0,int i64 0,int i64 0,int i64 0,.string ⟨#[]⟩,.bool false] (by simp);have hb:=boxed (boxed (Below.refl _ w) (.cells #[int i64 a0,int i64 a1,int i64 a2,int i64 a3] 77)) (.cells #[int i64 0,int i64 0,int i64 0,int i64 0,.string ⟨#[]⟩,.bool false] 130);have g:Hid _:=h.later hb;have R:Hid _:=h;clear h;have z:=Later.cell (g.out.box.cell 1 _ rfl);have B:=Later.cell (g.out.box.cell 2 _ rfl);have C:=Later.cell (g.out.box.cell 3 _ rfl);have D:=Later.cell (g.out.box.cell 4 _ rfl);have c0:=Later.cell d.c0;have c1:=Later.cell d.c1;have c2:=Later.cell d.c2;have c3:=Later.cell d.c3;go_enter Tryz.func216,Tryz.ntmps216
 go_wp2_with fail
 refine qaa (by kernel_rfl) (by kernel_rfl) ?_
 repeat (go_big_quiet_step (first|rfl|(go_at_call 205;exact qac (qq1 _ _ _ _ _ _ _ _ _))))
 refine wpQuiet_nil ?_;rintro q ⟨⟨_,i⟩,rfl⟩;replace a:=a.later i;replace d:=qa9.later i d;replace hb:=qab hb i;have E:Hid _:=g.out.later i;clear g z B C D c0 c1 c2 c3 i;cases hc:qfu S.a0 S.a1 S.a2 S.a3 a0 a1 a2 a3
 ·have r:Hid (qfe S key a0 a1 a2 a3=(qc6,10)):=by show qfe S key a0 a1 a2 a3=(qc6,10);unfold qfe;rw[hc];rfl
  have G:=a.cell 0 _ rfl;have p0:=a.free 0 (by simp[qah]);have H:=a.cell 1 _ rfl;have p1:=a.free 1 (by simp[qah]);have I:=a.cell 2 _ rfl;have p2:=a.free 2 (by simp[qah]);have J:=a.cell 3 _ rfl;have p3:=a.free 3 (by simp[qah]);have K:=a.cell 4 _ rfl;have L:=a.free 4 (by simp[qah]);have M:=a.cell 5 _ rfl;have N:=a.free 5 (by simp[qah]);have s:=qsq a 0 0 0 0 ⟨#[]⟩ false;have u:=qse hb (show w.heap.size<=w.heap.size+1 by omega) 0 0 0 0 ⟨#[]⟩ false;clear hc
  go_wp2_with fail
  refine bodyPost_ret (qmf (v:=qc6) (ev:=qbq 10) s rfl rfl) rfl ⟨?_,u⟩;rw[r.out]
 ·obtain⟨⟨⟨wl,j,st,k,m,gn⟩,ev⟩,p⟩:∃x,qdu key a0 a1 a2 a3 S.l=x:=⟨_,rfl⟩
  have r:Hid (qfe S key a0 a1 a2 a3=(⟨wl,j,st,k,m,gn⟩,ev)):=by show qfe S key a0 a1 a2 a3=_;unfold qfe;rw[hc,<-p];rfl
  have O:Hid (Calls Tryz.prog 259 #[.pointer (some ⟨b,25,none⟩),int i64 key,.agg #[int i64 a0,int i64 a1,int i64 a2,int i64 a3]] q.drew λe w'=>e=.returned (.tuple #[.agg #[int i64 wl,int i64 j,int i64 st,int i64 k,.string m,.bool gn],qbq ev])/\qa9 w' w.heap.size a0 a1 a2 a3/\qag w' (w.heap.size+1) (qah qc6)/\Below w.heap.size w w'):=by
   refine(qto key a0 a1 a2 a3 q.drew (E.out.later (Below.refl _ q).drew).st (by have:=o.len;have:=o.log;omega) o.apart o.ok).mono ?_;rintro e w' ⟨rfl,y⟩;refine⟨by rw[p];rfl,qa9.later y d.drew,a.drew.later y,qab hb.drew y⟩
  have U:Hid _:=p;have V:=λ(w':World) (h:qa9 w' w.heap.size a0 a1 a2 a3)=>h.c0;have W:=λ(w':World) (h:qa9 w' w.heap.size a0 a1 a2 a3)=>h.c1;have X:=λ(w':World) (h:qa9 w' w.heap.size a0 a1 a2 a3)=>h.c2;have Y:=λ(w':World) (h:qa9 w' w.heap.size a0 a1 a2 a3)=>h.c3;have Z:=d.drew
  have P:w.heap.size+1≠w.heap.size:=by omega
  clear hc p d a
  go_wp2_with fail
  go_region_held3 (λw'=>qa9 w' w.heap.size a0 a1 a2 a3) (first|(with_reducible assumption)|(with_reducible exact qxk (by with_reducible assumption) P _ _ _ _ _ _))
   (first|(go_at_call 259;with_reducible refine O.out.mono ?_;rintro e w5 ⟨rfl,RA5,c,Q⟩;have G:=c.cell 0 _ rfl;have p0:=c.free 0 (by simp[qah]);have H:=c.cell 1 _ rfl;have p1:=c.free 1 (by simp[qah]);have I:=c.cell 2 _ rfl;have p2:=c.free 2 (by simp[qah]);have J:=c.cell 3 _ rfl;have p3:=c.free 3 (by simp[qah]);have K:=c.cell 4 _ rfl;have L:=c.free 4 (by simp[qah]);have M:=c.cell 5 _ rfl;have N:=c.free 5 (by simp[qah])))
  all_goals
   have s:=qsq c wl j st k m gn;have u:=qse Q (show w.heap.size<=w.heap.size+1 by omega) wl j st k m gn
   go_wp2_with fail
   refine bodyPost_ret (qmf (v:=⟨wl,j,st,k,m,gn⟩) (ev:=qbq ev) s rfl rfl) rfl ⟨?_,u⟩;rw[r.out]
end
section
open Go.RowKit
theorem qyy {b:Nat} {G:Nat->Prop} {S:qaf} (key a0 a1 a2 a3:Int) (w:World) (h:PS w b G S) (a:qcx S):
 Calls Tryz.prog 216 #[.pointer (some ⟨b,0,none⟩),.int .i64 key,.agg #[.int .i64 a0,.int .i64 a1,.int .i64 a2,.int .i64 a3]] w λe w'=>
  e=.returned (.tuple #[.agg (qah (qfe S key a0 a1 a2 a3).1).toArray,qbq (qfe S key a0 a1 a2 a3).2])/\Below w.heap.size w w':=by
 obtain⟨lv,bm,F,log,waits,h,_,_,_⟩:=h;exact q50 key a0 a1 a2 a3 w h a
end
section
open Tryz Go.RowKit Go.Maps
variable {k:Int}
theorem q4o (h:(Lit.int .i64 k).wf=true):keyOf prog 3 (.int .i64 k)=some (.int .i64 k):=by
 unfold keyOf;rw[underlying3];simp[mapKey,h,underlying3]
variable {bm:Nat} {v:Bool}
theorem qev {f:Array Oper} {rest:List Oper} {o:Oper} {a:Act} {Q:Exit->Act->World->Prop} (w:World) (g:o.guard=none) (c d:Operand) (h:o.op=Op.lookup 221 c d true) {n:Nat} {D:DataW Value} {u:Value}
 (i:a.eval c=.map (some bm)) (j:w.ownsMap prog 3 qe3 bm n D) (m:a.eval d=.int .i64 k) (p:keyOf prog 3 (.int .i64 k)=some (.int .i64 k)) (q:Maps.has D (.int .i64 k)=v) (r:D.atKey (.int .i64 k) (.held jdu)=.held u)
 (x:wpList prog f Q rest (a.put o.dst (.tuple #[u,.bool v])) w):wpList prog f Q (o::rest) a w:=by
 refine wpList_lookup_own_ok w g c d 221 h 3 100 qxy underlying221 qe3 (jay w) (.held jdu) [] rfl bm n D i j (.int .i64 k) (.int .i64 k) m p ?_;intro z ps y;have e:=qol y;rw[r]at e;injection e with e;rw[<-e,q];exact x
variable {w:World} {l:List Wr}
theorem qli.look (h:qli w bm l) (k:Int):∃D,w.ownsMap prog 3 qe3 bm (qb6 l).length D/\Maps.has D (.int .i64 k)=(qf1 l k).isSome/\D.atKey (.int .i64 k) (.held jdu)=.held (wrV (qeg l k)):=by
 obtain⟨_,D,c,a⟩:=h;refine⟨D,c,?_⟩;cases ho:qf1 l k with
 |none=>
  have e:qeg l k=⟨0,⟨#[]⟩,false⟩:=by unfold qeg;rw[ho];rfl
  rw[e];exact⟨(a.no k ho).1,(a.no k ho).2 _⟩
 |some x=>
  have e:qeg l k=x:=by unfold qeg;rw[ho];rfl
  rw[e];exact⟨(a.has k x ho).1,(a.has k x ho).2 _⟩
theorem qli.len (h:qli w bm l) (a:TypeId):(Builtin.len_ #[221] a #[.map (some bm)]).run prog w=.ok (.int .i64 (qb6 l).length) w:=by
 obtain⟨_,D,c,d⟩:=h;have:=c.len underlying221 a;rw[d.size]at this;exact this
theorem qli.later {w':World} (h:qli w bm l) (hb:Below w.heap.size w w'):qli w' bm l:=h.kept (hb.block bm h.lt)
def jdw (x:Wr):Int:=if x.gone=true then 8 else 0
def jdr (x:Wr):ByteArray:=if x.gone=true then ⟨#[]⟩else x.data
theorem qwz (x:Wr) (w:World):
 Calls prog 215 #[wrV x] w λe w'=>e=.returned (.tuple #[.string (jdr x),qbq (jdw x)])/\Below w.heap.size w w':=by
 obtain⟨c,d,a⟩:=x;show Calls prog 215 #[.agg #[.int .i64 c,.string d,.bool a]] w _;have hb:=boxed (Below.refl _ w) (.cells #[.int .i64 c,.string d,.bool a] 100);cases a
 ·go_enter func215,ntmps215
  go_wp2_with fail
  go_ret2;exact⟨rfl,boxed (Below.refl _ w) _⟩
 ·go_enter func215,ntmps215
  go_wp2_with fail
  go_ret2;exact⟨rfl,boxed (Below.refl _ w) _⟩
variable {b:Nat} {s:qbn}
theorem q06 {H:Nat} {G T:Nat->Prop} {S:qaf} (key:Int) (p:(Lit.int .i64 key).wf=true) (w:World) (h:PSe w b G s) (q:PS w H T S) (r:qcx S):
 Calls prog 158 #[.pointer (some ⟨b,0,none⟩),.pointer (some ⟨H,0,none⟩),.int .i64 key] w λe w'=>e=.returned (.tuple #[.string (qb2 S s key).1,qbq (qb2 S s key).2])/\Below w.heap.size w w':=by
 have U:Hid (keyOf prog 3 (.int .i64 key)=some (.int .i64 key)):=q4o p;have V:Hid (PS w H T S/\qcx S):=⟨q,r⟩;obtain⟨mv,B,hm⟩:=h;have HB:Hid _:=B;have y:=B.cell 4 _ rfl;rcases hm with ⟨g,rfl,_,_⟩|⟨g,bm,rfl,_,I,_⟩
 ·rw[g]at y
  have i:Hid (qb2 S s key=(⟨#[]⟩,6)):=by show _=_;unfold qb2;rw[g];rfl
  clear q r g B p;rw[i.out];go_enter func158,ntmps158
  go_wp2_with fail
  go_ret2;exact⟨rfl,Below.refl _ _⟩
 ·rw[g]at y;have W:=B.cell 9 _ rfl;obtain⟨D,z,j,m⟩:=I.look key;cases hw:qf1 s.ws key with
  |none=>
   have n:qeg s.ws key=⟨0,⟨#[]⟩,false⟩:=by unfold qeg;rw[hw];rfl
   rw[hw]at j;rw[n]at m;clear n;have J:Hid _:=j;have K:Hid _:=m;obtain⟨⟨⟨L,M,rs,N,C,O⟩,X⟩,P⟩:∃x,qfe S key s.s0 s.s1 s.s2 s.s3=x:=⟨_,rfl⟩
   have i:Hid (qb2 S s key=(C,X)):=by show _=_;unfold qb2;rw[g,hw,P];rfl
   have o:=boxed (Below.refl _ w) (.cells #[.int .i64 0,.string ⟨#[]⟩,.bool false] 100);have Q:=qyy key s.s0 s.s1 s.s2 s.s3 _ (V.out.1.later o) V.out.2;rw[P]at Q;have E:=HB.out.later o;have y5:=E.cell 5 _ rfl;have y6:=E.cell 6 _ rfl;have y7:=E.cell 7 _ rfl;have y8:=E.cell 8 _ rfl;clear q r g B p I j m hw P;rw[i.out];go_enter func158,ntmps158
   go_wp2_with (at_lookup;refine qev _ rfl _ _ rfl (u:=.agg #[.int .i64 0,.string ⟨#[]⟩,.bool false]) rfl z rfl U.out J.out K.out ?_)
   refine Q.mono ?_;rintro e w3 ⟨rfl,R⟩;rw[show qah ((⟨L,M,rs,N,C,O⟩,X):Ver×Int).1=[.int .i64 L,.int .i64 M,.int .i64 rs,.int .i64 N,.string C,.bool O]from rfl];have hb4:=boxed (qab o R) (.cells #[.int .i64 L,.int .i64 M,.int .i64 rs,.int .i64 N,.string C,.bool O] 130);clear y5 y6 y7 y8 Q y W z
   go_wp2_with fail
   go_ret2;exact⟨rfl,hb4⟩
  |some x=>
   obtain⟨c,d,a⟩:=x
   have n:qeg s.ws key=⟨c,d,a⟩:=by unfold qeg;rw[hw];rfl
   rw[hw]at j;rw[n]at m;clear n;have J:Hid _:=j;have K:Hid _:=m
   have i:Hid (qb2 S s key=(jdr ⟨c,d,a⟩,jdw ⟨c,d,a⟩)):=by show _=_;unfold qb2 jdr jdw;rw[g,hw];cases a<;>rfl
   have F:=qwz ⟨c,d,a⟩ (w.alloc (.cells #[.int .i64 c,.string d,.bool a] 100));have o:=boxed (Below.refl _ w) (.cells #[.int .i64 c,.string d,.bool a] 100);obtain⟨Y,Z⟩:∃Y,jdr ⟨c,d,a⟩=Y:=⟨_,rfl⟩;obtain⟨ve,hve⟩:∃ve,jdw ⟨c,d,a⟩=ve:=⟨_,rfl⟩;rw[Z,hve]at F i;rw[show wrV ⟨c,d,a⟩=.agg #[.int .i64 c,.string d,.bool a]from rfl]at F;clear q r g B p I j m hw Z hve;rw[i.out];go_enter func158,ntmps158
   go_wp2_with (at_lookup;refine qev _ rfl _ _ rfl (u:=.agg #[.int .i64 c,.string d,.bool a]) rfl z rfl U.out J.out K.out ?_)
   refine F.mono ?_;rintro e w3 ⟨rfl,R⟩;clear y W z F
   go_wp2_with fail
   go_ret2;exact⟨rfl,qab o R⟩
theorem qxb (key:Int) (m:(Lit.int .i64 key).wf=true) (w:World) (B:qag w b (qcf s (.map (some bm)))) (i:qli w bm s.ws) (j:decide (qf1 s.ws key=none/\5<=(qb6 s.ws).length)=!v):
 Calls prog 213 #[.pointer (some ⟨b,0,none⟩),.int .i64 key] w λe w'=>e=.returned (.bool v)/\Below w.heap.size w w':=by
 have y:Hid (keyOf prog 3 (.int .i64 key)=some (.int .i64 key)):=q4o m;have E:=B.cell 9 _ rfl;obtain⟨D,z,a,c⟩:=i.look key;cases hw:qf1 s.ws key with
 |none=>
  have d:qeg s.ws key=⟨0,⟨#[]⟩,false⟩:=by unfold qeg;rw[hw];rfl
  rw[hw]at a;rw[d]at c;clear d;have n:Hid _:=a;have o:Hid _:=c;have g:=boxed (Below.refl _ w) (.cells #[.int .i64 0,.string ⟨#[]⟩,.bool false] 100);have F:=(i.later g).len;have c9:=(B.later g).cell 9 _ rfl
  have e:decide (((qb6 s.ws).length:Int)<5)=v:=by
   cases v
   ·have:=of_decide_eq_true j;exact decide_eq_false (by omega)
   ·have:=of_decide_eq_false j;refine decide_eq_true ?_;have G:¬5<=(qb6 s.ws).length:=λh=>this ⟨hw,h⟩;omega
  clear B i a c j m hw;go_enter func213,ntmps213
  go_wp2_with (at_lookup;refine qev _ rfl _ _ rfl (u:=.agg #[.int .i64 0,.string ⟨#[]⟩,.bool false]) rfl z rfl y.out n.out o.out ?_)
  go_ret;refine⟨?_,g⟩
  first|rfl|(simp[e])|(rw[e])
 |some x=>
  obtain⟨p,q,r⟩:=x
  have d:qeg s.ws key=⟨p,q,r⟩:=by unfold qeg;rw[hw];rfl
  rw[hw]at a;rw[d]at c;clear d;have n:Hid _:=a;have o:Hid _:=c;have g:=boxed (Below.refl _ w) (.cells #[.int .i64 p,.string q,.bool r] 100)
  have C:v=true:=by cases v<;>simp_all
  subst C;clear B i a c j m hw;go_enter func213,ntmps213
  go_wp2_with (at_lookup;refine qev _ rfl _ _ rfl (u:=.agg #[.int .i64 p,.string q,.bool r]) rfl z rfl y.out n.out o.out ?_)
  go_ret;exact⟨rfl,g⟩
theorem q0p (w:World) (B:qag w b (qcf s (.map (some bm)))) (H:qli w bm s.ws):
 Calls prog 207 #[.pointer (some ⟨b,0,none⟩)] w λe w'=>∃v,e=.returned v/\w'.ownsRow w.heap.size 100 3 v (qb6 s.ws).length (qhp (qb6 s.ws))/\Below w.heap.size w w':=by
 have I:Hid (qag w b (qcf s (.map (some bm)))/\qli w bm s.ws):=⟨B,H⟩;clear B H;obtain⟨i0,hi,N,O,P⟩:=info_parts qpf;go_enter func207,ntmps207
 go_wp2_with fail
 go_loopw [3,7] (λQ iv wr=>∃(k:Nat) (z:Int),k<=8/\z=k/\iv=.int .i64 z/\wr.ownsRow w.heap.size 100 3 Q (qed s.ws k).length (qhp (qed s.ws k))/\Below w.heap.size w wr) (λ_ i _=>8-(intOf i).toNat)
 case atStart=>exact⟨0,0,by omega,rfl,rfl,World.ownsRow_nil _ _ _ _,Below.refl _ _⟩
 case round=>
  obtain⟨k,z,hk,m,rfl,own,hb⟩:=hrel;have p:Hid _:=m;have hal:=qmb s.ws k;have k9:=(I.out.1.later hb).cell 9 _ rfl;by_cases hlt:k<8
  ·have R:z<8:=by omega
   have h0:0<=z:=by omega
   have J:Hid (keyOf prog 3 (.int .i64 z)=some (.int .i64 z)):=q9y ⟨by omega,by omega⟩;obtain⟨D,K,g,h⟩:=(I.out.2.later hb).look z;have q:Hid (qed s.ws (k+1)=qed s.ws k++(match qf1 s.ws (k:Int)with|some x=>[x]|none=>[])):=qj5 s.ws k;rw[m]at g h;cases ho:qf1 s.ws (k:Int)with
   |none=>
    have n:qeg s.ws (k:Int)=⟨0,⟨#[]⟩,false⟩:=by unfold qeg;rw[ho];rfl
    have C:Hid (qed s.ws (k+1)=qed s.ws k):=by show _=_;rw[q.out,ho];simp
    rw[ho]at g;rw[n]at h;rw[<-m]at g h;have E:Hid _:=g;have F:Hid _:=h;have S:=own.alloc (.cells #[.int .i64 0,.string ⟨#[]⟩,.bool false] 100);have U:=boxed hb (.cells #[.int .i64 0,.string ⟨#[]⟩,.bool false] 100);clear m ho n q g h own hb
    go_wp2_with (at_lookup;refine qev _ rfl _ _ rfl (u:=.agg #[.int .i64 0,.string ⟨#[]⟩,.bool false]) rfl K rfl J.out E.out F.out ?_)
    go_roundw
    case rel=>exact⟨k+1,z+1,by omega,by have:=p.out;omega,by go_num,by rw[C.out];exact S,U⟩
    case measure=>simp[intOf];have:=p.out;omega
   |some x=>
    obtain⟨a,c,d⟩:=x
    have n:qeg s.ws (k:Int)=⟨a,c,d⟩:=by unfold qeg;rw[ho];rfl
    have C:Hid (qed s.ws (k+1)=qed s.ws k++[⟨a,c,d⟩]):=by show _=_;rw[q.out,ho]
    rw[ho]at g;rw[n]at h;rw[<-m]at g h;have E:Hid _:=g;have F:Hid _:=h;have r:=own.alloc (.cells #[.int .i64 a,.string c,.bool d] 100);have o:=qag.new (w:=wr) (T:=100) [.int .i64 a,.string c,.bool d] rfl;change qag (wr.alloc (.cells #[.int .i64 a,.string c,.bool d] 100)) wr.heap.size [.int .i64 a,.string c,.bool d]at o;have y:=boxed hb (.cells #[.int .i64 a,.string c,.bool d] 100);obtain⟨W1,L⟩:∃W1,wr.alloc (.cells #[.int .i64 a,.string c,.bool d] 100)=W1:=⟨_,rfl⟩;rw[L]at r o y;have y0:=o.cell 0 _ rfl;have y1:=o.cell 1 _ rfl;have y2:=o.cell 2 _ rfl;clear own hb m ho n q g h;obtain⟨V,W,rfl,G⟩:=qdn r;have hcl:=G.len;have hcc:=G.cap;clear G
    go_wp2_with (first|(at_lookup;refine qev _ rfl _ _ rfl (u:=.agg #[.int .i64 a,.string c,.bool d]) rfl K rfl J.out E.out F.out ?_)|(rw[L])|(at_builtin;refine wpList_append_lies _ rfl (.tmp 20) (.tmp 22) 88 rfl w.heap.size 100 i0 (.agg #[.int .i64 0,.string ⟨#[]⟩,.bool false]) 3 32 underlying88 hi N O P rfl (by decide) (.slice V (qed s.ws k).length W) (qed s.ws k).length (qhp (qed s.ws k)) rfl (r.alloc _) ⟨W1.heap.size,0,none⟩ 1 1 (wrC ⟨a,c,d⟩) rfl rfl (World.news_of_block (heap_alloc_new W1 (.cells #[.int .i64 a,.string c,.bool d] 100))) (by intro u M;simp[wrC]at M;rcases M with rfl|rfl|rfl<;>rfl) (by decide) (by simp only[maxLen];omega) (by omega) (by have:=y.size;simp;omega) _ rfl ?_;intro g9 cap9 X Y Z egE ltE))
    have aa:Below w.heap.size w X:=(boxed y (.cells #[.int .i64 a,.string c,.bool d] 100)).grown Z (by have:=y.size;simp;omega) (λj hj=>by have:=(r.lt _ hj).1;omega)
    go_roundw
    case rel=>exact⟨k+1,z+1,by omega,by have:=p.out;omega,by go_num,by rw[C.out,qlr,List.length_append];exact Y,aa⟩
    case measure=>simp[intOf];have:=p.out;omega
  ·have R:¬z<8:=by omega
   have hkk:k=8:=by omega
   subst hkk
   go_wp2_with fail
   go_ret;exact⟨_,rfl,own,hb⟩
end
section
open Tryz Go.RowKit Go.Maps
variable {b:Nat} {G:Nat->Prop} {s:qbn}
theorem q2i {w a w2:World} {bm:Nat} {x:Wr} (c:∀k,G k↔(k=b\/k=bm)) (f:bm≠b) (g:s.opn=true) (hb:Below w.heap.size w a) (B:qag a b (qcf s (.map (some bm)))) (h:qli w2 bm (s.ws++[x])) (gr:a.grownBy w2 (some bm)):qi2 w b G {s with ws:=s.ws++[x]} w2:=by
 refine⟨G,⟨.map (some bm),B.grown gr (λe=>f (by injection e with e;exact e.symm)),.inr ⟨g,bm,rfl,f,h,c⟩⟩,λk i=>.inl i,?_⟩;exact(qae.ofBelow hb).trans (qae.grown gr (λk e=>(c k).2 (.inr (by injection e with e;exact e.symm))))
variable {d:ByteArray}
theorem qzt (h:d.toList.isEmpty=false):d.size≠0:=λe=>by
 rw[qek]at h;have:=qbg d;rw[e]at this;rw[List.length_eq_zero_iff.1 this]at h;cases h
theorem qv2 (h:d.toList.isEmpty=true):d.size=0:=by
 rw[qek,List.isEmpty_iff]at h;rw[<-qbg,h];rfl
theorem qyz (x:Wr) (w:World) (h:PSe w b G s):
 Calls prog 155 #[.pointer (some ⟨b,0,none⟩),wrV x] w λe w'=>e=.returned (qbq (qf4 s x))/\qi2 w b G (qlk s x) w':=by
 have NO:∀Y ev,qf4 s x=ev->ev≠0->Below w.heap.size w Y->Hid ((.returned (qbq ev):Ending)=.returned (qbq (qf4 s x))/\qi2 w b G (qlk s x) Y):=λY ev S Z e3=>by
  show _/\_;rw[S,show qlk s x=s by unfold qlk;rw[if_neg (by rw[S];exact Z)]];exact⟨rfl,qi2.same h e3⟩
 obtain⟨a,c,i⟩:=x;obtain⟨mv,r,hm⟩:=h;have hb:=boxed (Below.refl _ w) (.cells #[.int .i64 a,.string c,.bool i] 100);have q:=qag.new (w:=w) (T:=100) [.int .i64 a,.string c,.bool i] rfl;change qag (w.alloc (.cells #[.int .i64 a,.string c,.bool i] 100)) w.heap.size [.int .i64 a,.string c,.bool i]at q;have B:=r.later hb;have n:Hid _:=NO;clear NO;show Calls prog 155 #[.pointer (some ⟨b,0,none⟩),.agg #[.int .i64 a,.string c,.bool i]] w _;have M:=B.cell 4 _ rfl;rcases hm with ⟨o,rfl,_,_⟩|⟨o,bm,rfl,C,y,F⟩
 ·rw[o]at M
  have E:qf4 s ⟨a,c,i⟩=6:=by unfold qf4;rw[if_pos o]
  have m:=(n.out _ 6 E (by decide) hb).out;clear E o B r q n;go_enter func155,ntmps155
  go_wp2_with fail
  go_ret;exact m
 ·rw[o]at M
  have n1:¬s.opn=false:=by rw[o];decide
  by_cases hk0:a<0
  ·have E:qf4 s ⟨a,c,i⟩=2:=by unfold qf4;rw[if_neg n1,if_pos (.inl hk0)]
   have m:=(n.out _ 2 E (by decide) hb).out;clear E o B r q n n1 y F C;go_enter func155,ntmps155
   go_wp2_with fail
   go_ret;exact m
  ·by_cases hk8:8<=a
   ·have E:qf4 s ⟨a,c,i⟩=2:=by unfold qf4;rw[if_neg n1,if_pos (.inr hk8)]
    have m:=(n.out _ 2 E (by decide) hb).out;clear E o B r q n n1 y F C;go_enter func155,ntmps155
    go_wp2_with fail
    go_ret;exact m
   ·have n2:¬(a<0\/8<=a):=by omega
    by_cases hlen:12<(c.size:Int)
    ·have E:qf4 s ⟨a,c,i⟩=4:=by unfold qf4;rw[if_neg n1,if_neg n2,if_pos (by show 12<c.size;omega)]
     have m:=(n.out _ 4 E (by decide) hb).out;clear E o B r q n n1 n2 y F C;go_enter func155,ntmps155
     go_wp2_with fail
     go_ret;exact m
    ·have n3:¬12<c.size:=by omega
     have U:∀g:Bool,i=g->(g=false\/c.toList.isEmpty=true)->Hid (¬(i=true/\c.size≠0)):=λg e h=>by
        show ¬_;rintro ⟨S,Z⟩;rcases h with h|h
        ·rw[S]at e;rw[<-e]at h;cases h
        ·exact Z (qv2 h)
     have N:Hid (∀{v:Bool},decide (qf1 s.ws a=none/\5<=(qb6 s.ws).length)=!v->Calls prog 213 #[.pointer (some ⟨b,0,none⟩),.int .i64 a] (w.alloc (.cells #[.int .i64 a,.string c,.bool i] 100)) λe w'=>e=.returned (.bool v)/\Below (w.alloc (.cells #[.int .i64 a,.string c,.bool i] 100)).heap.size (w.alloc (.cells #[.int .i64 a,.string c,.bool i] 100)) w'):=λz=>qxb a (jds ⟨by omega,by omega⟩) _ B (y.later hb) z;have aa:Hid (keyOf prog 3 (.int .i64 a)=some (.int .i64 a)):=q9y ⟨by omega,by omega⟩;have l:Hid (qag w b (qcf s (.map (some bm)))/\qli w bm s.ws/\bm≠b/\(∀k,G k↔(k=b\/k=bm))/\s.opn=true/\¬s.opn=false/\¬(a<0\/8<=a)/\¬12<c.size/\0<=a/\a<8):=⟨r,y,C,F,o,n1,n2,n3,by omega,by omega⟩;cases hgg:(i&&!c.toList.isEmpty)
     ·have V:Hid (¬(i=true/\c.size≠0)):=by
       cases i
       ·exact U false rfl (.inl rfl)
       ·exact U true rfl (.inr (by simpa using hgg))
      clear U;cases z:decide (qf1 s.ws a=none/\5<=(qb6 s.ws).length)
      ·have W:=N.out (v:=true) (by rw[z];rfl)
       have X:Hid (qf4 s ⟨a,c,i⟩=0):=by
           show _=_;unfold qf4;rw[if_neg l.out.2.2.2.2.2.1,if_neg l.out.2.2.2.2.2.2.1,if_neg l.out.2.2.2.2.2.2.2.1,if_neg V.out,if_neg (of_decide_eq_false z)]
       clear B r o n1 n2 n3 y F C z V N n;have HRX:Hid _:=q;have GO:Hid (∀j,Below (w.alloc (.cells #[.int .i64 a,.string c,.bool i] 100)).heap.size (w.alloc (.cells #[.int .i64 a,.string c,.bool i] 100)) j->qag j b (qcf s (.map (some bm)))/\qli j bm s.ws/\qag j w.heap.size [.int .i64 a,.string c,.bool i]/\Below w.heap.size w j):=λj L=>⟨(l.out.1.later hb).later L,(l.out.2.1.later hb).later L,HRX.out.later L,qab hb L⟩;cases i
       ·clear hgg q;go_enter func155,ntmps155
        go_wp2_with fail
        refine W.mono ?_;rintro e j ⟨rfl,H⟩;obtain⟨I,M5,u,hbw⟩:=GO.out j H;obtain⟨O,D,J,P⟩:=M5;have K:Hid ((∀x∈s.ws,0<=x.key/\x.key<8)/\j.ownsMap prog 3 qe3 bm (qb6 s.ws).length D/\qqp D s.ws):=⟨O,J,P⟩;have Q:j.drew.ownsMap prog 3 qe3 bm (qb6 s.ws).length D:=J;have HB5:Hid _:=I;have HL8:Hid ((qb6 s.ws).length<=8):=qmb s.ws 8;obtain⟨w7,hrun,R,turn7⟩:=Q.store qxy underlying221 (by have:=HL8.out;simp only[maxLen];omega) aa.out (val:=.agg #[.int .i64 a,.string c,.bool false]) (d:=.held (.agg #[.int .i64 a,.string c,.bool false])) (ps:=[]) rfl;clear M O P J H
        go_wp2_with fail
        have k9:=I.cell 9 _ rfl;have x0:=u.cell 0 _ rfl;have x1:=u.cell 1 _ rfl;have x2:=u.cell 2 _ rfl
        go_region
        all_goals
            have M7:=qli.put K.out.1 K.out.2.1 K.out.2.2 (x:=⟨a,c,false⟩) l.out.2.2.2.2.2.2.2.2.1 l.out.2.2.2.2.2.2.2.2.2 R;have p:=turn7.grown;have gr:j.grownBy w7 (some bm):=⟨p.os,p.tape,p.output,p.size,p.block⟩;have m:=q2i l.out.2.2.2.1 l.out.2.2.1 l.out.2.2.2.2.1 hbw HB5.out M7 gr;clear I u k9 x0 x1 x2 Q R hrun
            go_wp2_with fail
            go_ret;refine⟨by rw[X.out];rfl,?_⟩;rw[show qlk s ⟨a,c,false⟩={s with ws:=s.ws++[⟨a,c,false⟩]} by unfold qlk;rw[if_pos X.out]];exact m
       ·have hee:c.toList.isEmpty=true:=by simpa using hgg
        clear hgg q;go_enter func155,ntmps155
        go_wp2_with fail
        refine W.mono ?_;rintro e j ⟨rfl,H⟩;obtain⟨I,M5,u,hbw⟩:=GO.out j H;obtain⟨O,D,J,P⟩:=M5;have K:Hid ((∀x∈s.ws,0<=x.key/\x.key<8)/\j.ownsMap prog 3 qe3 bm (qb6 s.ws).length D/\qqp D s.ws):=⟨O,J,P⟩;have Q:j.drew.ownsMap prog 3 qe3 bm (qb6 s.ws).length D:=J;have HB5:Hid _:=I;have HL8:Hid ((qb6 s.ws).length<=8):=qmb s.ws 8;obtain⟨w7,hrun,R,turn7⟩:=Q.store qxy underlying221 (by have:=HL8.out;simp only[maxLen];omega) aa.out (val:=.agg #[.int .i64 a,.string c,.bool true]) (d:=.held (.agg #[.int .i64 a,.string c,.bool true])) (ps:=[]) rfl;clear M O P J H
        go_wp2_with fail
        have k9:=I.cell 9 _ rfl;have x0:=u.cell 0 _ rfl;have x1:=u.cell 1 _ rfl;have x2:=u.cell 2 _ rfl
        go_region
        all_goals
            have M7:=qli.put K.out.1 K.out.2.1 K.out.2.2 (x:=⟨a,c,true⟩) l.out.2.2.2.2.2.2.2.2.1 l.out.2.2.2.2.2.2.2.2.2 R;have p:=turn7.grown;have gr:j.grownBy w7 (some bm):=⟨p.os,p.tape,p.output,p.size,p.block⟩;have m:=q2i l.out.2.2.2.1 l.out.2.2.1 l.out.2.2.2.2.1 hbw HB5.out M7 gr;clear I u k9 x0 x1 x2 Q R hrun
            go_wp2_with fail
            go_ret;refine⟨by rw[X.out];rfl,?_⟩;rw[show qlk s ⟨a,c,true⟩={s with ws:=s.ws++[⟨a,c,true⟩]} by unfold qlk;rw[if_pos X.out]];exact m
      ·have W:=N.out (v:=false) (by rw[z];rfl)
       have E:qf4 s ⟨a,c,i⟩=12:=by unfold qf4;rw[if_neg n1,if_neg n2,if_neg n3,if_neg V.out,if_pos (of_decide_eq_true z)]
       have m:Hid (∀j,Below (w.alloc (.cells #[.int .i64 a,.string c,.bool i] 100)).heap.size (w.alloc (.cells #[.int .i64 a,.string c,.bool i] 100)) j->(.returned (qbq 12):Ending)=.returned (qbq (qf4 s ⟨a,c,i⟩))/\qi2 w b G (qlk s ⟨a,c,i⟩) j):=λj L=>(n.out _ 12 E (by decide) (qab hb L)).out;clear E B r o n1 n2 n3 y F C z V N n;cases i
       all_goals
           (try have hee:c.toList.isEmpty=true:=by simpa using hgg)
           clear hgg;go_enter func155,ntmps155
           go_wp2_with fail
           refine W.mono ?_;rintro e j ⟨rfl,H⟩;clear M q
           go_wp2_with fail
           go_ret;exact m.out j H
     ·simp only[Bool.and_eq_true,Bool.not_eq_true']at hgg;obtain⟨rfl,hee⟩:=hgg
      have E:qf4 s ⟨a,c,true⟩=1:=by unfold qf4;rw[if_neg n1,if_neg n2,if_neg n3,if_pos ⟨rfl,qzt hee⟩]
      have m:=(n.out _ 1 E (by decide) hb).out;clear E o B r q n n1 n2 n3 y F C U N l aa;go_enter func155,ntmps155
      go_wp2_with fail
      go_ret;exact m
end
section
open Tryz Go.Value Go.IntKind Go.RowKit
structure WfW (W:WoS):Prop where
 n1:1<=W.n
 n4:W.n<=4
 c6:W.c<=6
 at_:∀k,k<W.c->W.at_ k<W.n
 inv:∀i,i<W.n->qcx (W.S i)
 id:∀i,i<W.n->(W.S i).id=(i:Int)
 net:W.net.length<=300
 wt:∀i,i<W.n->(W.S i).waits.length<=40
 lok:∀i,i<W.n->∀x∈(W.S i).log,okT x=true
 to:∀g∈W.net,g.to<W.n
variable {i:Nat}
section
variable {w:World} {b:Nat} {G:Nat->Prop} {M:WoM} {W:WoS} {Gs:Nat->Nat->Prop}
theorem PWo.client (h:PWo w b M W Gs) (hi:i<W.c):∃cb d,w.cell? ⟨b,1,none⟩=some (.slice (some ⟨cb,0,none⟩) W.c d)/\W.c<=d/\cb<w.heap.size/\w.cell? ⟨cb,i*2,none⟩=some (.pointer (some ⟨M.bs i,0,none⟩))/\w.cell? ⟨cb,i*2+1,none⟩=some (int i64 (W.at_ i)):=by
 obtain⟨a,cap,e,r⟩:=qai h.cr;rcases r.held with l|⟨g,rfl,j,f⟩
 ·omega
 ·have k:=h.box.cell 1 _ rfl;rw[e]at k;exact⟨g,cap,k,r.len,j,f _ _ (qf5 hi).1,f _ _ (qf5 hi).2⟩
theorem PWo.place (h:PWo w b M W Gs) (hi:i<W.n):∃c d,w.cell? ⟨b,0,none⟩=some (.slice (some ⟨c,0,none⟩) W.n d)/\W.n<=d/\c<w.heap.size/\w.cell? ⟨c,i*2,none⟩=some (.pointer (some ⟨M.bp i,0,none⟩))/\w.cell? ⟨c,i*2+1,none⟩=some (int i64 (W.wall i)):=by
 obtain⟨a,cap,e,r⟩:=qai h.pr;rcases r.held with l|⟨g,rfl,j,f⟩
 ·omega
 ·have k:=h.box.cell 0 _ rfl;rw[e]at k;exact⟨g,cap,k,r.len,j,f _ _ (qf5 hi).1,f _ _ (qf5 hi).2⟩
end
variable {b n:Nat} {a:Option Addr} {k:Int} {v:Bool}
theorem qbh {cap:Nat} (w:World) (c:w.cell? ⟨b,0,none⟩=some (.slice a n cap)) (h:(decide (0<=k)&&decide (k<(n:Int)))=v):
 Calls prog 141 #[.pointer (some ⟨b,0,none⟩),int i64 k] w λe w'=>e=.returned (.bool v)/\w'=w:=by
 by_cases d:0<=k
 ·by_cases g:k<(n:Int)
  ·have e:v=true:=by rw[<-h];simp[d,g]
   subst e;clear h;go_enter func141,ntmps141
   go_wp2_with fail
   go_ret;exact⟨rfl,rfl⟩
  ·have e:v=false:=by rw[<-h];simp[g]
   subst e;clear h;go_enter func141,ntmps141
   go_wp2_with fail
   go_ret;exact⟨rfl,rfl⟩
 ·have e:v=false:=by rw[<-h];simp[d]
  subst e;clear h;go_enter func141,ntmps141
  go_wp2_with fail
  go_ret;exact⟨rfl,rfl⟩
theorem qbd {cap:Nat} (w:World) (c:w.cell? ⟨b,1,none⟩=some (.slice a n cap)) (h:(decide (0<=k)&&decide (k<(n:Int)))=v):
 Calls prog 138 #[.pointer (some ⟨b,0,none⟩),int i64 k] w λe w'=>e=.returned (.bool v)/\w'=w:=by
 by_cases d:0<=k
 ·by_cases g:k<(n:Int)
  ·have e:v=true:=by rw[<-h];simp[d,g]
   subst e;clear h;go_enter func138,ntmps138
   go_wp2_with fail
   go_ret;exact⟨rfl,rfl⟩
  ·have e:v=false:=by rw[<-h];simp[g]
   subst e;clear h;go_enter func138,ntmps138
   go_wp2_with fail
   go_ret;exact⟨rfl,rfl⟩
 ·have e:v=false:=by rw[<-h];simp[d]
  subst e;clear h;go_enter func138,ntmps138
  go_wp2_with fail
  go_ret;exact⟨rfl,rfl⟩
theorem qgc {cap:Nat} (w:World) (c:w.cell? ⟨b,2,none⟩=some (.slice a n cap)) (h:(decide (0<=k)&&decide (k<(n:Int)))=v):
 Calls prog 152 #[.pointer (some ⟨b,0,none⟩),int i64 k] w λe w'=>e=.returned (.bool v)/\w'=w:=by
 by_cases d:0<=k
 ·by_cases g:k<(n:Int)
  ·have e:v=true:=by rw[<-h];simp[d,g]
   subst e;clear h;go_enter func152,ntmps152
   go_wp2_with fail
   go_ret;exact⟨rfl,rfl⟩
  ·have e:v=false:=by rw[<-h];simp[g]
   subst e;clear h;go_enter func152,ntmps152
   go_wp2_with fail
   go_ret;exact⟨rfl,rfl⟩
 ·have e:v=false:=by rw[<-h];simp[d]
  subst e;clear h;go_enter func152,ntmps152
  go_wp2_with fail
  go_ret;exact⟨rfl,rfl⟩
variable {G:Nat->Prop} {W:WoS}
theorem q6l (w:World) (h:PW w b G W) (d:WfW W) (hi:i<W.c):
 Calls prog 98 #[.pointer (some ⟨b,0,none⟩),int i64 i] w λe w'=>e=.returned (qbq (qps (W.S (W.at_ i)) (W.ses i)))/\qd8 w b G (qb1 W i (qpb (W.S (W.at_ i)) (W.ses i))) w':=by
 obtain⟨M,Gs,h,j⟩:=h;have l:Hid (PWo w b M W Gs/\∀k,G k↔ql7 b M (W.n+W.c) Gs k):=⟨h,j⟩;obtain⟨cb,u,c1,x,y,x0,x1⟩:=h.client hi;obtain⟨z,B,c0,C,D,E,F⟩:=h.place (d.at_ i hi);have H:=h.box.lt;have m:=qbd (k:=i) (v:=true) w c1 (by simp;omega);have g:=(boxed (Below.refl _ w) (.cells #[.pointer (some ⟨M.bs i,0,none⟩),int i64 (W.at_ i)] 171)).drew;have p:Hid (Calls prog 145 #[.pointer (some ⟨M.bs i,0,none⟩),.pointer (some ⟨M.bp (W.at_ i),0,none⟩)] (w.alloc (.cells #[.pointer (some ⟨M.bs i,0,none⟩),int i64 (W.at_ i)] 171)).drew λe w'=>e=.returned (qbq (qps (W.S (W.at_ i)) (W.ses i)))/\qi2 (w.alloc (.cells #[.pointer (some ⟨M.bs i,0,none⟩),int i64 (W.at_ i)] 171)).drew (M.bs i) (Gs (W.n+i)) (qpb (W.S (W.at_ i)) (W.ses i)) w'):=q03 _ ((h.sess hi).later g) ((h.site (d.at_ i hi)).later g)
 have I:(i:Int)<(W.c:Int):=by omega
 have J:(W.at_ i:Int)<(W.n:Int):=by have:=d.at_ i hi;omega
 clear h j d;go_enter func98,ntmps98
 go_wp2_with fail
 refine m.mono ?_;rintro e w2 ⟨rfl,o⟩;have q:=o.symm;clear o m;subst q
 go_wp2_with fail
 go_region_law (refine qav rfl 145 #[.pointer (some ⟨M.bs i,0,none⟩),.pointer (some ⟨M.bp (W.at_ i),0,none⟩)] (by go_simp) p.out ?_
                rintro e K ⟨rfl,r⟩
                refine⟨_,rfl,?_⟩)
 all_goals
  go_wp2_with fail
  go_ret;exact⟨rfl,l.out.1.stepC l.out.2 hi (qi2.trans (λk s=>.inl s) (qae.ofBelow g) r)⟩
theorem jb1 (key:Int) (m:(Lit.int .i64 key).wf=true) (w:World) (h:PW w b G W) (d:WfW W) (hi:i<W.c):
 Calls prog 113 #[.pointer (some ⟨b,0,none⟩),int i64 i,int i64 key] w λe w'=>e=.returned (.tuple #[.string (qb2 (W.S (W.at_ i)) (W.ses i) key).1,qbq (qb2 (W.S (W.at_ i)) (W.ses i) key).2])/\Below w.heap.size w w':=by
 obtain⟨M,Gs,h,o⟩:=h;obtain⟨cb,s,c1,u,x,x0,x1⟩:=h.client hi;obtain⟨y,z,c0,B,C,D,E⟩:=h.place (d.at_ i hi);have F:=h.box.lt;have j:=qbd (k:=i) (v:=true) w c1 (by simp;omega);have g:=(boxed (Below.refl _ w) (.cells #[.pointer (some ⟨M.bs i,0,none⟩),int i64 (W.at_ i)] 171)).drew;have p:Hid (Calls prog 158 #[.pointer (some ⟨M.bs i,0,none⟩),.pointer (some ⟨M.bp (W.at_ i),0,none⟩),int i64 key] (w.alloc (.cells #[.pointer (some ⟨M.bs i,0,none⟩),int i64 (W.at_ i)] 171)).drew λe w'=>e=.returned (.tuple #[.string (qb2 (W.S (W.at_ i)) (W.ses i) key).1,qbq (qb2 (W.S (W.at_ i)) (W.ses i) key).2])/\Below (w.alloc (.cells #[.pointer (some ⟨M.bs i,0,none⟩),int i64 (W.at_ i)] 171)).drew.heap.size (w.alloc (.cells #[.pointer (some ⟨M.bs i,0,none⟩),int i64 (W.at_ i)] 171)).drew w'):=q06 key m _ ((h.sess hi).later g) ((h.site (d.at_ i hi)).later g) (d.inv _ (d.at_ i hi))
 have H:(i:Int)<(W.c:Int):=by omega
 have I:(W.at_ i:Int)<(W.n:Int):=by have:=d.at_ i hi;omega
 clear h o d;go_enter func113,ntmps113
 go_wp2_with fail
 refine j.mono ?_;rintro e w2 ⟨rfl,l⟩;have q:=l.symm;clear l j;subst q
 go_wp2_with fail
 go_region_law (refine qav rfl 158 #[.pointer (some ⟨M.bs i,0,none⟩),.pointer (some ⟨M.bp (W.at_ i),0,none⟩),int i64 key] (by go_simp) p.out ?_
                rintro e J ⟨rfl,r⟩
                refine⟨_,rfl,?_⟩)
 all_goals
  go_wp2_with fail
  go_ret2;exact⟨rfl,qab g r⟩
theorem qx3 (d:Int) (g:ByteArray) (j:Bool) (w:World) (h:PW w b G W) (hi:i<W.c):
 Calls prog 105 #[.pointer (some ⟨b,0,none⟩),int i64 i,.agg #[int i64 d,.string g,.bool j]] w λe w'=>e=.returned (qbq (qf4 (W.ses i) ⟨d,g,j⟩))/\qd8 w b G (qb1 W i (qlk (W.ses i) ⟨d,g,j⟩)) w':=by
 obtain⟨M,Gs,h,l⟩:=h;have m:Hid (PWo w b M W Gs/\∀k,G k↔ql7 b M (W.n+W.c) Gs k):=⟨h,l⟩;obtain⟨cb,z,c1,B,C,x0,x1⟩:=h.client hi;have D:=h.box.lt;have o:=boxed (Below.refl _ w) (.cells #[int i64 d,.string g,.bool j] 100);have p:=qbd (k:=i) (v:=true) (w.alloc (.cells #[int i64 d,.string g,.bool j] 100)) (cell_later o c1) (by simp;omega);have q:=o.drew;have s:Hid (Calls prog 155 #[.pointer (some ⟨M.bs i,0,none⟩),.agg #[int i64 d,.string g,.bool j]] (w.alloc (.cells #[int i64 d,.string g,.bool j] 100)).drew λe w'=>e=.returned (qbq (qf4 (W.ses i) ⟨d,g,j⟩))/\qi2 (w.alloc (.cells #[int i64 d,.string g,.bool j] 100)).drew (M.bs i) (Gs (W.n+i)) (qlk (W.ses i) ⟨d,g,j⟩) w'):=qyz ⟨d,g,j⟩ _ ((h.sess hi).later q)
 have E:(i:Int)<(W.c:Int):=by omega
 clear h l;go_enter func105,ntmps105
 go_wp2_with fail
 refine p.mono ?_;rintro e w2 ⟨rfl,r⟩;have u:=r.symm;clear r p;subst u
 go_wp2_with fail
 go_region_law (refine qav rfl 155 #[.pointer (some ⟨M.bs i,0,none⟩),.agg #[int i64 d,.string g,.bool j]] (by go_simp) s.out ?_
                rintro e F ⟨rfl,x⟩
                refine⟨_,rfl,?_⟩)
 all_goals
  go_wp2_with fail
  go_ret;exact⟨rfl,m.out.1.stepC m.out.2 hi (qi2.trans (λk y=>.inl y) (qae.ofBelow q) x)⟩
theorem q8x (w:World) (h:PW w b G W) (hi:i<W.c):
 Calls prog 94 #[.pointer (some ⟨b,0,none⟩),int i64 i] w λe w'=>e=.returned (qbq (qsu (W.ses i)))/\qd8 w b G (qb1 W i (qpr (W.ses i))) w':=by
 obtain⟨M,Gs,h,d⟩:=h;have g:Hid (PWo w b M W Gs/\∀k,G k↔ql7 b M (W.n+W.c) Gs k):=⟨h,d⟩;obtain⟨cb,q,c1,r,s,x0,x1⟩:=h.client hi;have t:=h.box.lt;have j:=qbd (k:=i) (v:=true) w c1 (by simp;omega);have m:=qzr w (h.sess hi)
 have u:(i:Int)<(W.c:Int):=by omega
 clear h d;go_enter func94,ntmps94
 go_wp2_with fail
 refine j.mono ?_;rintro e w2 ⟨rfl,l⟩;have o:=l.symm;clear l j;subst o
 go_wp2_with fail
 refine m.mono ?_;rintro e x ⟨rfl,p⟩
 go_wp2_with fail
 go_ret;exact⟨rfl,g.out.1.stepC g.out.2 hi p⟩
theorem jbg (w:World) (h:PW w b G W):
 Calls prog 110 #[.pointer (some ⟨b,0,none⟩)] w λe w'=>e=.returned (int i64 W.net.length)/\w'=w:=by
 obtain⟨M,Gs,h,g⟩:=h
 have c:M.l.length=W.net.length:=by rw[<-h.nl];simp
 obtain⟨j,m,d,r⟩:=qai h.nr;have c2:=h.box.cell 2 _ rfl;rw[d,c]at c2;clear h g d r c;go_enter func110,ntmps110
 go_wp2_with fail
 go_ret;exact⟨rfl,rfl⟩
end
section
open Go.RowKit
variable {S S':qaf}
theorem Goes.few (h:Goes S S'):S'.waits.length<=S.waits.length:=h.log.2
theorem Goes.keepid (h:Goes S S'):S'.id=S.id:=by
 induction h with
 |full _=>rfl
 |none _=>rfl
 |step _ _ _ ih=>exact ih
theorem Goes.lok (h:Goes S S'):(∀x∈S.log,okT x=true)->(∀x∈S.waits,okT x=true)->∀x∈S'.log,okT x=true:=by
 induction h with
 |full _=>exact λh _=>h
 |none _=>exact λh _=>h
 |@step S S' x h1 h2 _ ih=>
  intro c b;refine ih (λy a=>?_) (λy a=>b y (qu7.1 a).1);rcases List.mem_append.1 (show y∈S.log++[x]from a)with e|e
  ·exact c y e
  ·rw[List.mem_singleton.1 e];exact b x (qmj h2).1
variable {t:TxP}
theorem q0q (a:t∈S.waits) (hs:0<=t.site/\t.site<=3) (b:qau S t=true):qht S≠none:=λe=>by
 have:=qzb e t a hs.1 hs.2;rw[b]at this;cases this
theorem qb8.few (h:qb8 S t S') (d:qcx S) (f:S.waits.length<=40):S'.waits.length<=40:=by
 rcases h with ⟨_,rfl⟩|⟨e,b⟩
 ·exact f
 ·obtain⟨p1,p2,p3,c,k⟩:=qf9 e;by_cases l:S.waits.length<40
  ·have:=b.few;simp at this;omega
  ·have a:qau S t=true:=by
        unfold qa8 at e
        rw[if_neg (by rw[p1];decide),if_neg p2,if_neg p3,if_neg (by
         intro q;obtain⟨x,j,hi⟩:=List.any_eq_true.1 q;rw[c x j]at hi
         cases hi),if_neg (by omega)]at e
        by_cases q:40<=S.waits.length/\qau S t=false
        ·rw[if_pos q]at e;omega
        ·cases a:qau S t with
         |true=>rfl
         |false=>exact absurd ⟨by omega,a⟩ q
   have hs:=(qei p1).1;cases b with
   |full hf=>exact absurd hf (by show ¬200<=S.log.length;omega)
   |none hn=>exact absurd hn (q0q (S:={S with waits:=S.waits++[t]}) (List.mem_append.2 (.inr (List.mem_singleton.2 rfl))) hs a)
   |@step _ _ x h1 h2 h3=>
    have l1:=h3.few;have l2:=qg1 (d.nums.snoc c) (qmj h2).1
    have l3:(S.waits++[t]).length=S.waits.length+1:=by simp
    have m:(qnp {S with waits:=S.waits++[t]} x).waits.length=(qh0 (S.waits++[t]) x).length:=rfl;omega
theorem qb8.keepid (h:qb8 S t S'):S'.id=S.id:=by
 rcases h with ⟨_,rfl⟩|⟨_,a⟩
 ·rfl
 ·exact a.keepid
theorem qb8.lok (h:qb8 S t S') (b:qcx S) (a:∀x∈S.log,okT x=true):∀x∈S'.log,okT x=true:=by
 rcases h with ⟨_,rfl⟩|⟨e,c⟩
 ·exact a
 ·obtain⟨p1,_⟩:=qf9 e;refine c.lok a (λx d=>?_);rcases List.mem_append.1 (show x∈S.waits++[t]from d)with q|q
  ·exact(b.wt x q).1
  ·rw[List.mem_singleton.1 q];exact p1
variable {i o:Nat}
section
variable {W W':WoS} {g:GrS}
theorem WfW.setSite (h:WfW W) (b:qcx S') (c:S'.id=(i:Int)) (d:S'.waits.length<=40) (e:∀x∈S'.log,okT x=true):WfW (setSite W i S'):=by
 refine⟨h.n1,h.n4,h.c6,h.at_,λj a=>?_,λj a=>?_,h.net,λj a=>?_,λj a=>?_,h.to⟩<;>show _<;>by_cases q:j=i
 ·subst q;show qcx (qcg W.S j S' j);rw[qam];exact b
 ·show qcx (qcg W.S i S' j);rw[qby _ _ q];exact h.inv j a
 ·subst q;show (qcg W.S j S' j).id=_;rw[qam];exact c
 ·show (qcg W.S i S' j).id=_;rw[qby _ _ q];exact h.id j a
 ·subst q;show (qcg W.S j S' j).waits.length<=40;rw[qam];exact d
 ·show (qcg W.S i S' j).waits.length<=40;rw[qby _ _ q];exact h.wt j a
 ·subst q;show ∀x∈(qcg W.S j S' j).log,_;rw[qam];exact e
 ·show ∀x∈(qcg W.S i S' j).log,_;rw[qby _ _ q];exact h.lok j a
theorem WfW.send (h:WfW W) (a:g.to<W.n):WfW (qdd W g):=by
 have s:=qbk W g;refine⟨by rw[s.n];exact h.n1,by rw[s.n];exact h.n4,by rw[s.c];exact h.c6,by rw[s.n,s.c,s.at_];exact h.at_,by rw[s.n,s.S];exact h.inv,by rw[s.n,s.S];exact h.id,?_,by rw[s.n,s.S];exact h.wt,by rw[s.n,s.S];exact h.lok,λx b=>?_⟩
 ·unfold qdd;split
  ·exact h.net
  ·show (W.net++[g]).length<=300;simp;omega
 ·rw[s.n];rcases qlw b with q|q
  ·exact h.to x q
  ·rw[q];exact a
theorem WfW.sends:∀(l:List TxP) (W:WoS),WfW W->o<W.n->WfW (qch o l W)
 |[],_,h,_=>h
 |t::l,W,h,ho=>by
  unfold qch;split
  ·exact WfW.sends l W h ho
  ·exact WfW.sends l _ (h.send ho) (by rw[(qbk W ⟨o,.tx t⟩).n];exact ho)
theorem WfW.tell:∀(k:Nat) (W:WoS),WfW W->k<=W.n->WfW (qec t k W)
 |0,_,h,_=>h
 |k+1,W,h,hk=>by
  unfold qec;split
  ·exact WfW.tell k W h (by omega)
  ·exact(WfW.tell k W h (by omega)).send (by rw[(qce t k W).n];show k<W.n;omega)
theorem WfW.answer (h:WfW W) (hi:i<W.n) (a:o<W.n) (v0 v1 v2 v3:Int):WfW (qdy W i o v0 v1 v2 v3):=
 WfW.sends _ _ (h.setSite ((h.inv i hi).knows _) (h.id i hi) (h.wt i hi) (h.lok i hi)) a
theorem WfW.drop (h:WfW W) (i:Nat):WfW (qdh W i):=
 ⟨h.n1,h.n4,h.c6,h.at_,h.inv,h.id,Nat.le_trans (List.eraseIdx_sublist W.net i).length_le h.net,h.wt,h.lok,λx a=>h.to x (List.mem_of_mem_eraseIdx a)⟩
theorem WfW.come (h:WfW W) (a:g.to<W.n) (d:qhb W g W'):WfW W':=by
 obtain⟨to,body⟩:=g;cases body with
 |tx t=>
  obtain⟨S',b,rfl⟩:=d;exact h.setSite (b.inv (h.inv to a)) (b.keepid.trans (h.id to a)) (b.few (h.inv to a) (h.wt to a)) (b.lok (h.inv to a) (h.lok to a))
 |ask site v0 v1 v2 v3=>
  have c:if 0<=site/\site<(W.n:Int)then W'=qdy W to site.toNat v0 v1 v2 v3 else W'=W:=d
  by_cases q:0<=site/\site<(W.n:Int)
  ·rw[if_pos q]at c;rw[c];exact h.answer a (by omega) v0 v1 v2 v3
  ·rw[if_neg q]at c;rw[c];exact h
theorem WfW.deliver (h:WfW W) (a:qcj W i W'):WfW W':=by
 obtain⟨g,b,c⟩:=a;exact(h.drop i).come (h.to g (List.mem_of_getElem? b)) c
def q49:GrS->Nat
 |⟨_,.tx _⟩=>1
 |⟨_,.ask _ _ _ _ _⟩=>302
def qtd (l:List GrS):Nat:=(l.map q49).sum
theorem qha (o:Nat):∀(l:List TxP) (W:WoS),W.net.length<=300->qtd (qch o l W).net+W.net.length<=qtd W.net+300
 |[],W,h=>by show qtd W.net+_<=_;omega
 |t::l,W,h=>by
  unfold qch;split
  ·exact qha o l W h
  ·by_cases q:300<=W.net.length
   ·have e:(qdd W ⟨o,.tx t⟩).net=W.net:=by unfold qdd;rw[if_pos q]
    have:=qha o l (qdd W ⟨o,.tx t⟩) (by rw[e];exact h);rw[e]at this;exact this
   ·have e:=q5k (W:=W) (g:=⟨o,.tx t⟩) (by omega);have:=qha o l (qdd W ⟨o,.tx t⟩) (by rw[e];simp;omega);rw[e]at this;simp[qtd,q49]at this ⊢;omega
theorem qkw (h:WfW W) (a:qcj W 0 W'):qtd W'.net<qtd W.net:=by
 obtain⟨⟨to,body⟩,b,f⟩:=a
 obtain⟨r,c⟩:∃r,W.net=⟨to,body⟩::r:=by
  cases hn:W.net with
  |nil=>rw[hn]at b;simp at b
  |cons x r=>
   rw[hn]at b;simp at b;exact⟨r,by rw[b]⟩
 have a:(qdh W 0).net=r:=by show W.net.eraseIdx 0=r;rw[c];rfl
 have j:r.length+1<=300:=by have:=h.net;rw[c]at this;simpa using this
 cases body with
 |tx t=>
  obtain⟨S',_,rfl⟩:=f;show qtd (qdh W 0).net<_;rw[a,c];simp[qtd,q49]
 |ask site v0 v1 v2 v3=>
  have d:if 0<=site/\site<((qdh W 0).n:Int)then W'=qdy (qdh W 0) to site.toNat v0 v1 v2 v3 else W'=qdh W 0:=f
  by_cases q:0<=site/\site<((qdh W 0).n:Int)
  ·rw[if_pos q]at d;have:=qha site.toNat (qhm ((qdh W 0).S to) v0 v1 v2 v3) (setSite (qdh W 0) to (qbs ((qdh W 0).S to) site.toNat v0 v1 v2 v3)) (by show (qdh W 0).net.length<=300;rw[a];omega);rw[d];have e:(setSite (qdh W 0) to (qbs ((qdh W 0).S to) site.toNat v0 v1 v2 v3)).net=r:=a;rw[e]at this;show qtd (qch _ _ _).net<_;rw[c];simp[qtd,q49]at this ⊢;omega
  ·rw[if_neg q]at d;rw[d,a,c];simp[qtd,q49]
end
end
section
open Go.RowKit
def jcz (n:Nat) (g:GrS):Prop:=
 match g.body with
 |.tx t=>okT t=true
 |.ask s _ _ _ _=>0<=s/\s<(n:Int)
def qk8 (W:WoS):Prop:=∀g∈W.net,jcz W.n g
variable {i:Nat} {A B:WoS}
section
variable {W W':WoS} {g:GrS}
theorem qk8.send (h:qk8 W) (a:jcz W.n g):qk8 (qdd W g):=λx b=>by
 rw[(qbk W g).n];rcases qlw b with q|q
 ·exact h x q
 ·rw[q];exact a
theorem qk8.drop (h:qk8 W) (i:Nat):qk8 (qdh W i):=λx a=>h x (List.mem_of_mem_eraseIdx a)
theorem qk8.tell (h:qk8 W) {t:TxP} (a:okT t=true) (k:Nat):qk8 (qec t k W):=λx b=>by
 rw[(qce t k W).n];rcases qoo k b with q|⟨_,q⟩
 ·exact h x q
 ·obtain⟨to,body⟩:=x;have q:body=.tx t:=q;subst q;exact a
theorem qk8.come (h:qk8 W) (b:WfW W) (c:g.to<W.n) (a:qhb W g W'):qk8 W':=by
 obtain⟨to,body⟩:=g;cases body with
 |tx t=>
  obtain⟨S',_,rfl⟩:=a;exact h
 |ask s v0 v1 v2 v3=>
  have a:if 0<=s/\s<(W.n:Int)then W'=qdy W to s.toNat v0 v1 v2 v3 else W'=W:=a
  split at a
  ·rw[a];intro x d;show jcz (qdy W to s.toNat v0 v1 v2 v3).n x;rw[show (qdy W to s.toNat v0 v1 v2 v3).n=W.n from(qfd _ _ _).n];rcases qqs _ _ d with q|⟨_,t,e,_,q⟩
   ·exact h x q
   ·obtain⟨f,body⟩:=x;have q:body=.tx t:=q;subst q;exact b.lok to c t (List.mem_filter.1 e).1
  ·rw[a];exact h
theorem qk8.deliver (h:qk8 W) (a:WfW W) (b:qcj W i W'):qk8 W':=by
 obtain⟨g,c,d⟩:=b;exact(h.drop i).come (a.drop i) (a.to g (List.mem_of_getElem? c)) d
theorem qhb.det (h:qhb W g A) (k:qhb W g B):A=B:=by
 obtain⟨to,body⟩:=g;cases body with
 |tx t=>
  obtain⟨c,a,rfl⟩:=h;obtain⟨d,b,rfl⟩:=k;rw[qb8.det a b]
 |ask s v0 v1 v2 v3=>
  have h:if 0<=s/\s<(W.n:Int)then A=qdy W to s.toNat v0 v1 v2 v3 else A=W:=h
  have k:if 0<=s/\s<(W.n:Int)then B=qdy W to s.toNat v0 v1 v2 v3 else B=W:=k
  split at h
  ·rename_i q;rw[if_pos q]at k;rw[h,k]
  ·rename_i q;rw[if_neg q]at k;rw[h,k]
theorem qcj.det (h:qcj W i A) (k:qcj W i B):A=B:=by
 obtain⟨g,b,c⟩:=h;obtain⟨g',a,d⟩:=k;rw[b]at a;cases a;exact c.det d
end
variable {W:WoS}
theorem qcy.det (h:qcy W A):qcy W B->A=B:=by
 induction h with
 |none h0=>
  intro k;cases k with
  |none _=>rfl
  |step h1 _ _=>exact absurd h0 h1
 |step h1 h2 _ ih=>
  intro k;cases k with
  |none h0=>exact absurd h0 h1
  |step _ k2 k3=>
   rw[h2.det k2]at ih;exact ih k3
variable {m:Nat}
theorem qgj.det {k:Nat} (h:qgj k m W A):∀{B:WoS},qgj k m W B->A=B:=by
 induction h with
 |zero=>
  intro B q;cases q;rfl
 |self _ e ih=>
  intro B q;cases q with
  |self q _=>exact ih q
  |ask _ n _=>exact absurd e n
 |ask _ n h3 ih=>
  intro B q;cases q with
  |self _ e=>exact absurd e n
  |ask q _ q3=>
   have:=ih q;subst this;exact h3.det q3
theorem qfg.det (h:qfg m W A):∀{B:WoS},qfg m W B->A=B:=by
 induction h with
 |zero=>
  intro B q;cases q;rfl
 |next _ h2 ih=>
  intro B q;cases q with
  |next q q2=>
   have:=ih q;subst this;exact h2.det q2
theorem qkx.det (h:qkx W A) (k:qkx W B):A=B:=by
 obtain⟨W1,a,b⟩:=h;obtain⟨e,c,d⟩:=k;have:=a.det c;subst this;exact b.det d
end
section
open Go.RowKit
theorem q4w (l:List GrM) (m:GrM):qgu (l++[m])=qgu l++qvz m:=by simp[qgu]
theorem quh (m:GrM):∀u∈qvz m,u.oneCell'=true:=by
 intro u a;simp[qvz]at a
 rcases a with rfl|rfl<;>rfl
theorem qxs:(Tryz.prog.info? 205).map (λi=>(i.zero,i.size,i.bytes))=some (some (.agg #[.int .i64 0,.slice none 0 0]),2,32):=by kernel_rfl
theorem qq9 (W:World) (n:Nat) (c:W.heap.size=n) (a:List Value) (T:TypeId):∀j u,a[j]?=some u->(W.alloc (.cells a.toArray T)).cell? ((⟨n,0,none⟩:Addr).add j)=some u:=by
 subst c;exact World.news_of_block (heap_alloc_new W (.cells a.toArray T))
section
variable {w w2 wE:World} {b g cap:Nat} {G:Nat->Prop} {M:WoM} {W:WoS} {Gs:Nat->Nat->Prop} {m:GrM}
theorem PWo.pushed (h:PWo w b M W Gs) (hb:Below w.heap.size w w2) (D:m.Ok w) (F:(∃x∈M.l,x.blk=m.blk)\/¬ql7 b M (W.n+W.c) Gs m.blk)
 (own:wE.ownsRow 0 205 2 (.slice (some ⟨g,0,none⟩) (M.l.length+1) cap) (M.l.length+1) (qgu M.l++qvz m)) (gr:w2.grownBy wE M.nv.ownBlock) (u:M.nv.ownBlock=some g\/w.heap.size<=g) (H:g<wE.heap.size):
 PWo (wE.setCell ⟨b,2,none⟩ (.slice (some ⟨g,0,none⟩) (M.l.length+1) cap)) b {M with nv:=.slice (some ⟨g,0,none⟩) (M.l.length+1) cap,l:=M.l++[m]} {W with net:=W.net++[m.g]} Gs:=by
 have Q:=h.box.lt;have s2:=hb.size;have R:=gr.size;have v:(Value.slice (some ⟨g,0,none⟩) (M.l.length+1) cap).ownBlock=some g:=rfl;have I:=D.own.lt
 have E:g≠b:=by
  rcases u with e|e
  ·exact λq=>h.sb.2.2 (by rw[e,q])
  ·omega
 have J:∀k,k<w.heap.size->M.nv.ownBlock≠some k->wE.heap[k]?=w.heap[k]?:=λk d A=>(gr.block k (by omega) (λe=>A e.symm)).trans (hb.block k d);have z:∀k,k<w.heap.size->M.nv.ownBlock≠some k->k≠b->(wE.setCell ⟨b,2,none⟩ (.slice (some ⟨g,0,none⟩) (M.l.length+1) cap)).heap[k]?=w.heap[k]?:=λk d A K=>(Below.heap_setCell _ _ _ _ (λe=>K e)).trans (J k d A)
 have y:(wE.setCell ⟨b,2,none⟩ (.slice (some ⟨g,0,none⟩) (M.l.length+1) cap)).heap.size=wE.heap.size:=by simp[World.setCell]
 have B:=h.ltF
 have p:m.blk≠b/\M.pv.ownBlock≠some m.blk/\M.cv.ownBlock≠some m.blk/\M.nv.ownBlock≠some m.blk/\(∀i,i<W.n+W.c->¬Gs i m.blk):=by
  rcases F with ⟨x,o,e⟩|e
  ·have:=h.sg x o;rw[e]at this;exact⟨this.1,this.2.1,this.2.2.1,this.2.2.2,(h.fam.free m.blk (.inr (.inr (.inr (.inr ⟨x,o,e⟩))))).2⟩
  ·exact⟨λq=>e (.inl (.inl q)),λq=>e (.inl (.inr (.inl q))),λq=>e (.inl (.inr (.inr (.inl q)))),λq=>e (.inl (.inr (.inr (.inr (.inl q))))),λi hi q=>e (.inr ⟨i,hi,q⟩)⟩
 have L:m.blk≠g:=by
  rcases u with e|e
  ·exact λq=>p.2.2.2.1 (by rw[e,q])
  ·omega
 refine⟨?_,?_,?_,?_,?_,λx o=>?_,?_,⟨h.sb.1,h.sb.2.1,λe=>?_⟩,λk=>⟨λe=>⟨(h.sr k).1 e|>.1,λa=>?_⟩,λe a=>?_⟩,λx o=>?_⟩
 ·have N:=(h.box.later hb).grown gr (λe=>h.sb.2.2 e.symm);exact N.set 2 _ (by simp)
 ·exact qad h.pr (λk e=>z k (h.pr.lt k e).2 ((h.sr k).1 e).2 (λq=>h.sb.1 (by rw[e,q])))
 ·exact qad h.cr (λk e=>z k (h.cr.lt k e).2 ((h.sr k).2 e) (λq=>h.sb.2.1 (by rw[e,q])))
 ·show World.ownsRow _ 0 _ 2 _ (M.l++[m]).length (qgu (M.l++[m]));rw[q4w,List.length_append];exact qad own (λk e=>Below.heap_setCell _ _ _ _ (λq=>E (by rw[v]at e;injection e with e;exact e.trans q)))
 ·show (M.l++[m]).map (·.g)=W.net++[m.g];rw[List.map_append,h.nl];rfl
 ·rcases List.mem_append.1 o with q|q
  ·have:=h.sg x q;exact(h.gr x q).kept (z _ (B _ (.inr (.inr (.inr (.inr ⟨x,q,rfl⟩))))) this.2.2.2 this.1) (by rw[y];omega)
  ·rw[List.mem_singleton.1 q];exact D.kept (z _ I p.2.2.2.1 p.1) (by rw[y];omega)
 ·have f:=h.fam.to (X':=qiu b M) (w':=wE.setCell ⟨b,2,none⟩ (.slice (some ⟨g,0,none⟩) (M.l.length+1) cap)) (λj k C e=>z k (h.ltG C e) (λq=>(h.fam.free k (.inr (.inr (.inr (.inl q))))).2 j C e) (λq=>(h.fam.free k (.inl q)).2 j C e)) (by rw[y];omega) (λk d=>⟨.inl d,by rw[y];have:=B k d;omega⟩);refine⟨f.is,f.apart,λk d=>?_,f.half⟩
  ·rcases d with e|e|e|e|⟨x,o,e⟩
   ·exact f.free k (.inl e)
   ·exact f.free k (.inr (.inl e))
   ·exact f.free k (.inr (.inr (.inl e)))
   ·rw[v]at e;injection e with e;subst e;rcases u with q|q
    ·exact f.free g (.inr (.inr (.inr (.inl q))))
    ·exact⟨by rw[y];exact H,λi hi O=>by have:=h.ltG hi O;omega⟩
   ·rcases List.mem_append.1 o with q|q
    ·exact f.free k (.inr (.inr (.inr (.inr ⟨x,q,e⟩))))
    ·rw[List.mem_singleton.1 q]at e;subst e;exact⟨by rw[y];omega,p.2.2.2.2⟩
 ·rw[v]at e;injection e with e;exact E e
 ·rw[v]at a;injection a with a;subst a;rcases u with q|q
  ·exact((h.sr g).1 e).2 q
  ·have:=(h.pr.lt g e).2;omega
 ·rw[v]at a;injection a with a;subst a;rcases u with q|q
  ·exact(h.sr g).2 e q
  ·have:=(h.cr.lt g e).2;omega
 ·have P:some g≠some x.blk->(Value.slice (some ⟨g,0,none⟩) (M.l.length+1) cap).ownBlock≠some x.blk:=λq=>q;rcases List.mem_append.1 o with q|q
  ·have s:=h.sg x q;refine⟨s.1,s.2.1,s.2.2.1,P (λe=>?_)⟩;injection e with e;rcases u with r|r
   ·exact s.2.2.2 (by rw[r,e])
   ·have:=B x.blk (.inr (.inr (.inr (.inr ⟨x,q,rfl⟩))));omega
  ·rw[List.mem_singleton.1 q];exact⟨p.1,p.2.1,p.2.2.1,λe=>by rw[v]at e;injection e with e;exact L e.symm⟩
theorem PWo.lostBox (h:PWo w b M W Gs) (hb:Below w.heap.size w w2) (x:Int):PWo (w2.setCell ⟨b,3,none⟩ (.int .i64 x)) b M {W with lost:=x} Gs:=by
 have s2:=hb.size;have a:∀k,k<w.heap.size->k≠b->(w2.setCell ⟨b,3,none⟩ (.int .i64 x)).heap[k]?=w.heap[k]?:=λk c l=>(Below.heap_setCell _ _ _ _ (λe=>l e)).trans (hb.block k c)
 have d:(w2.setCell ⟨b,3,none⟩ (.int .i64 x)).heap.size=w2.heap.size:=by simp[World.setCell]
 exact⟨(h.box.later hb).set 3 _ (by simp),qad h.pr (λk e=>a k (h.pr.lt k e).2 (λq=>h.sb.1 (by rw[e,q]))),qad h.cr (λk e=>a k (h.cr.lt k e).2 (λq=>h.sb.2.1 (by rw[e,q]))),qad h.nr (λk e=>a k (h.nr.lt k e).2 (λq=>h.sb.2.2 (by rw[e,q]))),h.nl,λx f=>(h.gr x f).kept (a _ (h.ltF _ (.inr (.inr (.inr (.inr ⟨x,f,rfl⟩))))) (h.sg x f).1) (by rw[d];exact s2),h.fam.to (λj k i e=>a k (h.ltG i e) (λq=>(h.fam.free k (.inl q)).2 j i e)) (by rw[d];exact s2) (λk c=>⟨.inl c,by rw[d];have:=h.ltF k c;omega⟩),h.sb,h.sr,h.sg⟩
def qh2 (w:World) (b:Nat) (M:WoM) (Gs:Nat->Nat->Prop) (Z:Nat->Prop) (W':WoS) (w':World):Prop:=
 ∃nv' l',PWo w' b {M with nv:=nv',l:=l'} W' Gs/\(∀k,nv'.ownBlock=some k->M.nv.ownBlock=some k\/w.heap.size<=k)/\(∀x∈l',x∈M.l\/Z x.blk)/\qae (λk=>k=b\/M.nv.ownBlock=some k) w w'
theorem qh2.post {w':World} {W':WoS} {Z:Nat->Prop} (h:qh2 w b M Gs Z W' w') (a:∀k,G k↔ql7 b M (W.n+W.c) Gs k) (j:W'.n=W.n) (l:W'.c=W.c) (o:∀k,Z k->G k\/w.heap.size<=k):qd8 w b G W' w':=by
 obtain⟨v,y,p,r,s,d⟩:=h;refine⟨_,⟨_,Gs,p,λ_=>Iff.rfl⟩,λk f=>?_,⟨d.os,d.tape,d.output,d.size,λk f t=>d.block k f (λe=>t ((a k).2 (.inl (e.elim .inl (λq=>.inr (.inr (.inr (.inl q))))))))⟩⟩;rw[j,l]at f;rcases f with (e|e|e|e|⟨x,u,e⟩)|⟨i,hi,e⟩
 ·exact .inl ((a k).2 (.inl (.inl e)))
 ·exact .inl ((a k).2 (.inl (.inr (.inl e))))
 ·exact .inl ((a k).2 (.inl (.inr (.inr (.inl e)))))
 ·rcases r k e with q|q
  ·exact .inl ((a k).2 (.inl (.inr (.inr (.inr (.inl q))))))
  ·exact .inr q
 ·rcases s x u with q|q
  ·exact .inl ((a k).2 (.inl (.inr (.inr (.inr (.inr ⟨x,q,e⟩))))))
  ·rw[e]at q;exact o k q
 ·exact .inl ((a k).2 (.inr ⟨i,hi,e⟩))
theorem PWo.later (h:PWo w b M W Gs) (hb:Below w.heap.size w w2):PWo w2 b M W Gs:=
 ⟨h.box.later hb,qad h.pr (λk e=>hb.block k (h.pr.lt k e).2),qad h.cr (λk e=>hb.block k (h.cr.lt k e).2),qad h.nr (λk e=>hb.block k (h.nr.lt k e).2),h.nl,λm a=>(h.gr m a).kept (hb.block _ (h.gr m a).own.lt) hb.size,h.fam.to (λ_ k c e=>hb.block k (h.ltG c e)) hb.size (λk e=>⟨.inl e,Nat.lt_of_lt_of_le (h.ltF k e) hb.size⟩),h.sb,h.sr,h.sg⟩
theorem qh2.none (h:PWo w b M W Gs) (hb:Below w.heap.size w w2) (Z:Nat->Prop):qh2 w b M Gs Z W w2:=⟨M.nv,M.l,h.later hb,λ_ e=>.inl e,λ_ a=>.inl a,qae.ofBelow hb⟩
end
theorem qrm {b:Nat} {M:WoM} {W:WoS} {Gs:Nat->Nat->Prop} (w:World) (h:PWo w b M W Gs) (m:GrM) (p:m.Ok w) (s:(∃x∈M.l,x.blk=m.blk)\/¬ql7 b M (W.n+W.c) Gs m.blk):
 Calls Tryz.prog 144 #[.pointer (some ⟨b,0,none⟩),.agg #[.int .i64 m.g.to,.slice (some ⟨m.blk,0,none⟩) m.S.size m.cap]] w λe w'=>e=.returned (.tuple #[])/\qh2 w b M Gs (λk=>k=m.blk) (qdd W m.g) w':=by
 have i:Hid (PWo w b M W Gs/\m.Ok w/\((∃x∈M.l,x.blk=m.blk)\/¬ql7 b M (W.n+W.c) Gs m.blk)):=⟨h,p,s⟩
 have C:M.l.length=W.net.length:=by rw[<-h.nl];simp
 obtain⟨K,L,j,r⟩:=qai h.nr;have X:=h.box.lt;have u:=boxed (Below.refl _ w) (.cells #[.int .i64 m.g.to,.slice (some ⟨m.blk,0,none⟩) m.S.size m.cap] 205);have a:=h.box.later u;rw[j]at a;have c2:=a.cell 2 _ rfl;have c3:=a.cell 3 _ rfl;have f2:=a.free 2 (by simp);have f3:=a.free 3 (by simp);by_cases o:300<=W.net.length
 ·have q:300<=(M.l.length:Int):=by omega
  have y:Hid (qdd W m.g={W with lost:=wrap64 (W.lost+1)}):=if_pos o;clear h p s r C o;go_enter Tryz.func144,Tryz.ntmps144
  go_wp2_with fail
  refine bodyPost_ret (v:=.tuple #[]) (results_none rfl _ _ _) rfl ⟨rfl,?_⟩;rw[y.out];exact⟨M.nv,M.l,(i.out.1.lostBox (Below.refl _ w) (wrap64 (W.lost+1))).later (boxed (Below.refl _ _) _),λ_ e=>.inl e,λ_ z=>.inl z,(qae.setCell _ _ _ (.inl rfl)).trans (qae.ofBelow (boxed (Below.refl _ _) _))⟩
 ·have q:¬300<=(M.l.length:Int):=by omega
  have y:Hid (qdd W m.g={W with net:=W.net++[m.g]}):=if_neg o
  have D:Hid (M.l.length<300):=by show _<_;omega
  obtain⟨i0,hi,N,O,P⟩:=info_parts qxs;have E:=(boxed u.drew (.cells #[.int .i64 m.g.to,.slice (some ⟨m.blk,0,none⟩) m.S.size m.cap] 205));have F:=qad h.nr (λk e=>u.drew.block k (h.nr.lt k e).2);rw[j]at F;have d:Hid _:=j;have Q:Hid _:=h.sb.2.2;clear h p s r C o j;go_enter Tryz.func144,Tryz.ntmps144
  go_wp2_with fail
  go_region_law (refine step_append_lies _ rfl (.tmp 21) (.tmp 23) 160 rfl 0 205 i0 (.agg #[.int .i64 0,.slice none 0 0]) 2 32 Tryz.underlying160 hi N O P rfl (by decide) (.slice K M.l.length L) M.l.length (qgu M.l) (by simp[Act.eval]) (F.alloc _) ⟨w.heap.size+1,0,none⟩ 1 1 [.int .i64 m.g.to,.slice (some ⟨m.blk,0,none⟩) m.S.size m.cap] (by simp[Act.eval]) rfl (qq9 _ _ (by simp) [.int .i64 m.g.to,.slice (some ⟨m.blk,0,none⟩) m.S.size m.cap] 205) (quh m) (by decide) (by have:=D.out;simp only[maxLen];omega) (by have:=D.out;omega) (by omega) _ rfl ?_
                 intro H R wE T B I U;have J:qag wE b _:=(a.later (boxed (Below.refl _ _) _).drew).grown B (λe=>Q.out (by rw[d.out];exact e.symm));have Y:=J.cell 2 _ rfl
                 have Z:=J.free 2 (by simp))
  all_goals
   go_wp2_with fail
   go_end0;refine⟨rfl,?_⟩;rw[y.out];refine⟨.slice (some ⟨H,0,none⟩) (M.l.length+1) R,M.l++[m],i.out.1.pushed E i.out.2.1 i.out.2.2 T (by rw[d.out];exact B) ?_ U,λk e=>?_,λx z=>?_,?_⟩
   ·rw[d.out];rcases I with e|e
    ·exact .inl e
    ·exact .inr (by rw[e];simp;omega)
   ·rw[d.out];have V:H=k:=Option.some.inj e;subst V;rcases I with e|e
    ·exact .inl e
    ·exact .inr (by rw[e];simp;omega)
   ·rcases List.mem_append.1 z with q|q
    ·exact .inl q
    ·exact .inr (by rw[List.mem_singleton.1 q])
   ·refine((qae.ofBelow E).trans (qae.grown B (λk e=>.inr (by rw[d.out];exact e)))).trans (qae.setCell _ _ _ (.inl rfl))
end
section
open Go.Value Go.IntKind Go.RowKit
section
variable {w w1 w2 w':World} {b:Nat} {M:WoM} {W W':WoS} {Gs:Nat->Nat->Prop} {Z:Nat->Prop}
theorem qh2.from (hb:Below w.heap.size w w1) (h:qh2 w1 b M Gs Z W' w'):qh2 w b M Gs Z W' w':=by
 obtain⟨a,c,d,f,g,i⟩:=h;exact⟨a,c,d,λk e=>(f k e).elim .inl (λq=>.inr (Nat.le_trans hb.size q)),g,(qae.ofBelow hb).trans i⟩
theorem qh2.weak {a:Nat->Prop} (h:qh2 w b M Gs Z W' w') (c:∀k,Z k->a k):qh2 w b M Gs a W' w':=by
 obtain⟨d,e,f,g,i,j⟩:=h;exact⟨d,e,f,g,λx l=>(i x l).elim .inl (λq=>.inr (c _ q)),j⟩
theorem qh2.size (h:qh2 w b M Gs Z W' w'):w.heap.size<=w'.heap.size:=by
 obtain⟨_,_,_,_,_,a⟩:=h;exact a.size
theorem qh2.block (h:qh2 w b M Gs Z W' w') {k:Nat} (a:k<w.heap.size) (c:k≠b) (d:M.nv.ownBlock≠some k):w'.heap[k]?=w.heap[k]?:=by
 obtain⟨_,_,_,_,_,f⟩:=h;exact f.block k a (λe=>e.elim c d)
theorem qh2.next {i:WoS} (h:qh2 w b M Gs Z W' w1) (a:∀f g,PWo w1 b {M with nv:=f,l:=g} W' Gs->qh2 w1 b {M with nv:=f,l:=g} Gs Z i w'):qh2 w b M Gs Z i w':=by
 obtain⟨f,g,m,j,n,c⟩:=h;obtain⟨o,l2,g1,p,g3,d⟩:=a f g m;have s:=c.size;refine⟨o,l2,g1,λk e=>?_,λx r=>?_,?_⟩
 ·rcases p k e with q|q
  ·exact j k q
  ·exact .inr (by omega)
 ·rcases g3 x r with q|q
  ·exact n x q
  ·exact .inr q
 ·refine⟨d.os.trans c.os,d.tape.trans c.tape,d.output.trans c.output,Nat.le_trans s d.size,λk t a=>?_⟩;refine(d.block k (by omega) (λe=>?_)).trans (c.block k t a);rcases e with e|e
  ·exact a (.inl e)
  ·rcases j k e with q|q
   ·exact a (.inr q)
   ·omega
end
theorem qqj {b:Nat} {M:WoM} {W:WoS} {Gs:Nat->Nat->Prop} (to:Nat) (site seq wall count d0 d1 d2 d3:Int) (ws:List Wr) (a:Option Addr) (cap:Nat) (w:World) (h:PWo w b M W Gs) (j:qaz w a cap ws) (p:qdf site seq wall count d0 d1 d2 d3 ws=true):
 Calls Tryz.prog 208 #[.pointer (some ⟨b,0,none⟩),int i64 to,.agg #[int i64 site,int i64 seq,int i64 wall,int i64 count,int i64 d0,int i64 d1,int i64 d2,int i64 d3,.slice a ws.length cap]] w λe w'=>e=.returned (.tuple #[])/\qh2 w b M Gs (λk=>w.heap.size<=k) (qdd W ⟨to,.tx ⟨site,seq,wall,count,d0,d1,d2,d3,ws⟩⟩) w':=by
 have c:Hid _:=h;have d:=boxed (Below.refl _ w) (.cells #[int i64 site,int i64 seq,int i64 wall,int i64 count,int i64 d0,int i64 d1,int i64 d2,int i64 d3,.slice a ws.length cap] 102);have l:=q0z (j.later d) p;clear h j;go_enter Tryz.func208,Tryz.ntmps208
 go_wp2_with fail
 refine l.mono ?_;rintro e w2 ⟨S,g,m,rfl,⟨r,_⟩,hs,O,s⟩;have n:=qab d s;have u:w.heap.size<=g:=Nat.le_trans d.size O.base;have o:=c.out.later n
 have v:Hid (Calls Tryz.prog 144 #[.pointer (some ⟨b,0,none⟩),.agg #[int i64 to,.slice (some ⟨g,0,none⟩) S.size m]] w2 λe w'=>e=.returned (.tuple #[])/\qh2 w2 b M Gs (λk=>k=g) (qdd W ⟨to,.tx ⟨site,seq,wall,count,d0,d1,d2,d3,ws⟩⟩) w'):=
  qrm w2 o ⟨⟨to,.tx ⟨site,seq,wall,count,d0,d1,d2,d3,ws⟩⟩,g,m,S⟩ ⟨O.mono (Nat.zero_le _),hs,r⟩ (.inr (λe=>by
   rcases e with q|⟨i,hi,q⟩
   ·have:g<w.heap.size:=c.out.ltF g q;omega
   ·have:g<w.heap.size:=c.out.ltG hi q
    omega))
 clear l o
 go_wp2_with fail
 refine v.out.mono ?_;rintro e y ⟨rfl,x⟩
 go_wp2_with fail
 go_end0;exact⟨rfl,(x.from n).weak (λk e=>by rw[e];exact u)⟩
theorem q6j {b:Nat} {M:WoM} {W:WoS} {Gs:Nat->Nat->Prop} (site seq wall count d0 d1 d2 d3:Int) (ws:List Wr) (a:Option Addr) (cap:Nat) (w:World) (h:PWo w b M W Gs) (H:W.n<=4) (I:qaz w a cap ws) (J:∀k o,ws≠[]->a=some ⟨k,o,none⟩->k≠b/\M.nv.ownBlock≠some k) (K:qdf site seq wall count d0 d1 d2 d3 ws=true):
 Calls Tryz.prog 151 #[.pointer (some ⟨b,0,none⟩),.agg #[int i64 site,int i64 seq,int i64 wall,int i64 count,int i64 d0,int i64 d1,int i64 d2,int i64 d3,.slice a ws.length cap]] w λe w'=>e=.returned (.tuple #[])/\qh2 w b M Gs (λk=>w.heap.size<=k) (qec ⟨site,seq,wall,count,d0,d1,d2,d3,ws⟩ W.n W) w':=by
 have g:Hid (PWo w b M W Gs/\qaz w a cap ws/\(∀k o,ws≠[]->a=some ⟨k,o,none⟩->k≠b/\M.nv.ownBlock≠some k)/\qdf site seq wall count d0 d1 d2 d3 ws=true):=⟨h,I,J,K⟩;have v:=boxed (Below.refl _ w) (.cells #[int i64 site,int i64 seq,int i64 wall,int i64 count,int i64 d0,int i64 d1,int i64 d2,int i64 d3,.slice a ws.length cap] 102);have y:=qag.new (w:=w) (T:=102) [int i64 site,int i64 seq,int i64 wall,int i64 count,int i64 d0,int i64 d1,int i64 d2,int i64 d3,.slice a ws.length cap] rfl;obtain⟨pa,pc,L,r⟩:=qai h.pr;have B:=h.box.later v;rw[L]at B;have c0:=B.cell 0 _ rfl;have hlt:=h.box.lt;obtain⟨w1,p⟩:∃w1,w.alloc (.cells #[int i64 site,int i64 seq,int i64 wall,int i64 count,int i64 d0,int i64 d1,int i64 d2,int i64 d3,.slice a ws.length cap] 102)=w1:=⟨_,rfl⟩
 have c:Hid (Below w.heap.size w w1/\qag w1 w.heap.size [int i64 site,int i64 seq,int i64 wall,int i64 count,int i64 d0,int i64 d1,int i64 d2,int i64 d3,.slice a ws.length cap]/\w.heap.size<w1.heap.size):=by
  rw[p]at v
  have N:qag w1 w.heap.size [int i64 site,int i64 seq,int i64 wall,int i64 count,int i64 d0,int i64 d1,int i64 d2,int i64 d3,.slice a ws.length cap]:=by rw[<-p];exact y
  exact⟨v,N,N.lt⟩
 have U:Hid _:=H;rw[p]at c0;clear h I J K y r L v H;go_enter Tryz.func151,Tryz.ntmps151
 go_wp2_with fail
 try rw[p]
 clear c0 B p
 go_loopw [10] (λiv wr=>∃(k:Nat) (z:Int),k<=W.n/\z=k/\iv=int i64 z/\Hid (qh2 w1 b M Gs (λq=>w.heap.size<=q) (qec ⟨site,seq,wall,count,d0,d1,d2,d3,ws⟩ k W) wr)) (λiv _=>W.n-(intOf iv).toNat)
 case atStart=>exact⟨0,0,by omega,rfl,rfl,qh2.none (g.out.1.later c.out.1) (Below.refl _ _) _⟩
 case round=>
  obtain⟨k,z,hk,O,rfl,i⟩:=hrel;have d:Hid _:=O;by_cases hlt2:k<W.n
  ·have g1:z<(W.n:Int):=by omega
   have g3:0<=z:=by omega
   have g4:z<4:=by have:=U.out;omega
   have nb:w.heap.size≠b/\M.nv.ownBlock≠some w.heap.size:=⟨by omega,λe=>by have:=(g.out.1.nr.lt _ e).2;omega⟩;have y:=c.out.2.1.kept (i.out.block c.out.2.2 nb.1 nb.2) i.out.size;obtain⟨x0,x1,x2,x3,V,X,Y,x7,x8⟩:=y.c9;clear O nb;by_cases hs:z=site
   ·have C:Hid (qec ⟨site,seq,wall,count,d0,d1,d2,d3,ws⟩ (k+1) W=qec ⟨site,seq,wall,count,d0,d1,d2,d3,ws⟩ k W):=if_pos (d.out.symm.trans hs)
    go_wp2_with fail
    go_roundw
    case rel=>exact⟨k+1,z+1,by omega,by have:=d.out;omega,by go_num,by show qh2 _ _ _ _ _ _ _;rw[C.out];exact i.out⟩
    case measure=>simp[intOf];have:=d.out;omega
   ·have C:Hid (qec ⟨site,seq,wall,count,d0,d1,d2,d3,ws⟩ (k+1) W=qdd (qec ⟨site,seq,wall,count,d0,d1,d2,d3,ws⟩ k W) ⟨k,.tx ⟨site,seq,wall,count,d0,d1,d2,d3,ws⟩⟩):=if_neg (λe=>hs (d.out.trans e));obtain⟨nv',l',P,D,Q,j⟩:=i.out
    have R:qaz wr a cap ws:=qaz.kept (m:=⟨⟨site,seq,wall,count,d0,d1,d2,d3,ws⟩,a,cap⟩) (g.out.2.1.later c.out.1) (λq e=>by
     have lq:=qaz.blk_lt (m:=⟨⟨site,seq,wall,count,d0,d1,d2,d3,ws⟩,a,cap⟩) g.out.2.1 q e;obtain⟨e1,o,e2⟩:=e;have:=g.out.2.2.1 q o e1 e2
     exact i.out.block (Nat.lt_of_lt_of_le lq c.out.1.size) this.1 this.2)
    have E:=qqj k site seq wall count d0 d1 d2 d3 ws a cap wr P R g.out.2.2.2;rw[<-d.out]at E;have HX:Hid (∀nv l,PWo wr b {M with nv:=nv,l:=l} (qec ⟨site,seq,wall,count,d0,d1,d2,d3,ws⟩ k W) Gs->True):=λ_ _ _=>trivial
    have S:Hid (Calls Tryz.prog 208 #[.pointer (some ⟨b,0,none⟩),int i64 z,.agg #[int i64 site,int i64 seq,int i64 wall,int i64 count,int i64 d0,int i64 d1,int i64 d2,int i64 d3,.slice a ws.length cap]] wr λe w'=>e=.returned (.tuple #[])/\qh2 w1 b M Gs (λq=>w.heap.size<=q) (qdd (qec ⟨site,seq,wall,count,d0,d1,d2,d3,ws⟩ k W) ⟨k,.tx ⟨site,seq,wall,count,d0,d1,d2,d3,ws⟩⟩) w'):=E.mono λe w' ⟨he,F⟩=>⟨he,by
     obtain⟨nv2,l2,g1',g2',g3',u⟩:=F;have s:=j.size;have s1:=c.out.1.size;refine⟨nv2,l2,g1',λq e=>?_,λx hx=>?_,?_⟩
     ·rcases g2' q e with r|r
      ·exact D q r
      ·exact .inr (by omega)
     ·rcases g3' x hx with r|r
      ·exact Q x r
      ·exact .inr (by omega)
     ·refine⟨u.os.trans j.os,u.tape.trans j.tape,u.output.trans j.output,Nat.le_trans s u.size,λq hq G=>?_⟩;refine(u.block q (by omega) (λe=>?_)).trans (j.block q hq G);rcases e with e|e
      ·exact G (.inl e)
      ·rcases D q e with r|r
       ·exact G (.inr r)
       ·omega⟩
    clear E HX P D Q j R
    go_wp2_with fail
    refine S.out.mono ?_;rintro e w3 ⟨rfl,F⟩;clear S x0 x1 x2 x3 V X Y x7 x8
    go_wp2_with fail
    go_roundw
    case rel=>exact⟨k+1,z+1,by omega,by have:=d.out;omega,by go_num,by show qh2 _ _ _ _ _ _ _;rw[C.out];exact F⟩
    case measure=>simp[intOf];have:=d.out;omega
  ·have g1:¬z<(W.n:Int):=by omega
   have e:k=W.n:=by omega
   subst e
   go_wp2_with fail
   go_end0;exact⟨rfl,i.out.from c.out.1⟩
end
section
open Go.RowKit
def qlj (w:World) (b:Nat) (wv:Value) (s':qbn) (w':World):Prop:=
 ∃wv',qmo w' b wv' s'/\(∀k,wv'.ownBlock=some k->wv.ownBlock=some k\/w.heap.size<=k)/\qae (λk=>k=b\/wv.ownBlock=some k) w w'
variable {w w':World} {b:Nat} {wv:Value} {s:qbn}
theorem qlj.same (h:qmo w b wv s) (hb:Below w.heap.size w w'):qlj w b wv s w':=⟨wv,h.later hb,λ_ e=>.inl e,qae.ofBelow hb⟩
theorem qxv {a:World} {c:qbn} (hb:Below w.heap.size w a) (f:∀k,k≠b->w'.heap[k]?=a.heap[k]?) (g:w'.os=a.os) (h:w'.tape=a.tape) (i:w'.output=a.output) (j:a.heap.size<=w'.heap.size) (l:qag w' b (qbw c (.slice none 0 0))) (d:c.ws=[]):qlj w b wv c w':=by
 refine⟨.slice none 0 0,⟨l,by rw[d];exact World.ownsRow_nil _ _ _ _,by simp[Value.ownBlock]⟩,λk e=>by simp[Value.ownBlock]at e,⟨g.trans hb.os,h.trans hb.tape,i.trans hb.output,Nat.le_trans hb.size j,λk m d=>?_⟩⟩;have n:k≠b:=λe=>d (.inl e);exact(f k n).trans (hb.block k m)
theorem jbj {w2:World} {c:Value} (hb:Below w.heap.size w w2) (B:qag w2 b (qbw s c)) (a0 a1 a2 a3:Int):
 qlj w b wv {s with opn:=true,s0:=a0,s1:=a1,s2:=a2,s3:=a3,ws:=[]} ((((((w2.setCell ⟨b,8,none⟩ (.bool true)).setCell ⟨b,4,none⟩ (.int .i64 a0)).setCell ⟨b,5,none⟩ (.int .i64 a1)).setCell ⟨b,6,none⟩ (.int .i64 a2)).setCell ⟨b,7,none⟩ (.int .i64 a3)).setCell ⟨b,9,none⟩ (.slice none 0 0)):=by
 have d:=B.set 8 (.bool true) (by simp[qbw]);have e:=d.set 4 (.int .i64 a0) (by simp[qbw]);have f:=e.set 5 (.int .i64 a1) (by simp[qbw]);have g:=f.set 6 (.int .i64 a2) (by simp[qbw]);have h:=g.set 7 (.int .i64 a3) (by simp[qbw]);have i:=h.set 9 (.slice none 0 0) (by simp[qbw]);refine qxv hb (λk a=>?_) ?_ ?_ ?_ ?_ i rfl
 ·rw[Below.heap_setCell _ _ _ _ a,Below.heap_setCell _ _ _ _ a,Below.heap_setCell _ _ _ _ a,Below.heap_setCell _ _ _ _ a,Below.heap_setCell _ _ _ _ a,Below.heap_setCell _ _ _ _ a]
 ·simp only[World.setCell]
 ·simp only[World.setCell]
 ·simp only[World.setCell]
 ·simp only[World.setCell,Array.size_modify,Nat.le_refl]
end
section
open Go.RowKit
def qiy (b:Nat) (S:qaf) (Y:Nat->Prop):qnm:=⟨λw G=>PS w b G S/\∀k,Y k->¬G k,λ_ _ h=>h.1.lt,λ_ _ _ h a c=>⟨h.1.kept a c,h.2⟩⟩
def q2z (w:World) (b bx:Nat) (G Gx:Nat->Prop) (S:qaf) (s:qbn) (now:Int) (e:Ending) (w':World):Prop:=
 ∃m:TxM,e=.returned (.tuple #[txV m,qbq (qgo S s now)])/\m.t=qe7 S s now/\Hid (qaz w' m.wa m.wc m.t.ws/\qki (qr3 b (qbe S s now)) (qiy bx (qe9 S s now) m.blk) w G Gx m.blk w')
section
variable {p:qnm} {w w':World} {G Gx Y Z:Nat->Prop} {bx:Nat} {S:qaf}
theorem qw0 (h:qki p (qi8 bx S) w G Gx Z w') (b:∀k,¬Y k):qki p (qiy bx S Y) w G Gx Y w':=by
 obtain⟨c,d,p1,e,p2,f,g,_,i⟩:=h;exact⟨c,d,p1,⟨e,λk a=>absurd a (b k)⟩,p2,f,g,λk a=>absurd a (b k),i⟩
theorem jbe (h:qki p (qiy bx S Y) w G Gx Z w'):qki p (qi8 bx S) w G Gx NoY w':=by
 obtain⟨a,b,p1,c,p2,d,e,_,f⟩:=h;exact⟨a,b,p1,c.1,p2,d,e,λk g=>g.elim,f⟩
end
end
section
open Go.RowKit
variable {w w':World} {G:Nat->Prop}
section
variable {p q:qnm} {w wA wB wC wD wF:World} {G Gx Y N:Nat->Prop}
theorem q4m (i:∀k,G k->k<w.heap.size) (j:∀k,G k->¬Gx k) (a:Below w.heap.size w wA) (l:∀k,N k->w.heap.size<=k/\k<wA.heap.size) (m:qg0 q wA Gx wB) (d:qae N wB wC):(∀k,G k->wC.heap[k]?=w.heap[k]?)/\w.heap.size<=wC.heap.size:=by
 obtain⟨o,r,t,c⟩:=m;refine⟨λk f=>?_,Nat.le_trans a.size (Nat.le_trans c.size d.size)⟩;have g:=i k f;have h:k<wA.heap.size:=Nat.lt_of_lt_of_le g a.size;exact(d.block k (Nat.lt_of_lt_of_le h c.size) (λe=>by have:=(l k e).1;omega)).trans ((c.block k h (j k f)).trans (a.block k g))
theorem qk7 (l:∀k,G k->k<w.heap.size) (E:∀k,Gx k->k<w.heap.size) (F:∀k,G k->¬Gx k) (g:Below w.heap.size w wA) (m:∀k,N k->w.heap.size<=k/\k<wA.heap.size) (H:qg0 q wA Gx wB) (o:∀k,Y k->wA.heap.size<=k/\k<wB.heap.size)
 (d:qae N wB wC) (I:qg0 p wC G wD) (c:qae N wD wF):qki p q w G Gx Y wF/\∀k,Y k->wF.heap[k]?=wB.heap[k]?:=by
 obtain⟨r,v,u,i⟩:=H;obtain⟨x,p1,ps,f⟩:=I;have P:=g.size;have Q:=i.size;have J:=d.size;have K:=f.size;have z:=c.size;have t:∀k,r k->k<wB.heap.size:=λk a=>q.lt _ _ v k a
 have A:∀k,r k->¬N k:=λk a e=>by
  have:=m k e;rcases u k a with h|h
  ·have:=E k h;omega
  ·omega
 have B:∀k,r k->¬G k:=λk a e=>by
  rcases u k a with h|h
  ·exact F k e h
  ·have:=l k e;omega
 have L:∀k,x k->¬N k:=λk a e=>by
  have:=m k e;rcases ps k a with h|h
  ·have:=l k h;omega
  ·omega
 refine⟨⟨x,r,?_,?_,λk a=>?_,λk a=>?_,λk a C=>?_,λk a=>⟨?_,?_,λe=>?_⟩,⟨?_,?_,?_,?_,λk a D=>?_⟩⟩,λk a=>?_⟩
 ·exact p.kept _ _ _ p1 (λk a=>c.block k (p.lt _ _ p1 k a) (L k a)) z
 ·have M:=q.kept _ _ _ v (λk a=>d.block k (t k a) (A k a)) J;have O:=q.kept _ _ _ M (λk a=>f.block k (by have:=t k a;omega) (B k a)) K;exact q.kept _ _ _ O (λk a=>c.block k (by have:=t k a;omega) (A k a)) z
 ·rcases ps k a with h|h
  ·exact .inl h
  ·exact .inr (by omega)
 ·rcases u k a with h|h
  ·exact .inl h
  ·exact .inr (by omega)
 ·rcases ps k a with h|h
  ·exact B k C h
  ·have:=t k C;omega
 ·have:=(o k a).1;omega
 ·have:=(o k a).2;omega
 ·have:=o k a;rcases ps k e with h|h
  ·have:=l k h;omega
  ·omega
 ·exact c.os.trans (f.os.trans (d.os.trans (i.os.trans g.os)))
 ·exact c.tape.trans (f.tape.trans (d.tape.trans (i.tape.trans g.tape)))
 ·exact c.output.trans (f.output.trans (d.output.trans (i.output.trans g.output)))
 ·omega
 ·have j:¬N k:=λe=>by have:=(m k e).1;omega
  exact(c.block k (by omega) j).trans ((f.block k (by omega) (λe=>D (.inl e))).trans ((d.block k (by omega) j).trans ((i.block k (by omega) (λe=>D (.inr e))).trans (g.block k a))))
 ·have y:=o k a
  have j:¬N k:=λe=>by have:=(m k e).2;omega
  exact(c.block k (by omega) j).trans ((f.block k (by omega) (λe=>by have:=l k e;omega)).trans (d.block k (by omega) j))
theorem qqt {p q:qnm} {Gx:Nat->Prop} (c:p.is w G) (d:q.is w Gx) (e:∀k,G k->¬Gx k) (hb:Below w.heap.size w w') (Y:Nat->Prop) (f:∀k,¬Y k):qki p q w G Gx Y w':=
 ⟨G,Gx,p.kept _ _ _ c (λk a=>hb.block k (p.lt _ _ c k a)) hb.size,q.kept _ _ _ d (λk a=>hb.block k (q.lt _ _ d k a)) hb.size,λ_ a=>.inl a,λ_ a=>.inl a,e,λk a=>absurd a (f k),qae.ofBelow hb⟩
end
variable {b:Nat}
theorem qcu {F:Nat->Prop} {W:World} (h:qae F w W) (a:F b) (x0 x1 x2 x3 c d e f:Int) (v:Value):qae F w (qbu W b x0 x1 x2 x3 c d e f v):=
 ((((((((h.trans (qae.setCell _ _ _ a)).trans (qae.setCell _ _ _ a)).trans (qae.setCell _ _ _ a)).trans (qae.setCell _ _ _ a)).trans (qae.setCell _ _ _ a)).trans (qae.setCell _ _ _ a)).trans (qae.setCell _ _ _ a)).trans (qae.setCell _ _ _ a)).trans (qae.setCell _ _ _ a)
def qth (n:Nat) (x:Int) (s:qbn):qbn:={s with p0:=if n=0 then x else s.p0,p1:=if n=1 then x else s.p1,p2:=if n=2 then x else s.p2,p3:=if n=3 then x else s.p3}
variable {s:qbn} {wv:Value} {n:Int}
theorem jbd (c:0<=n) (d:n<=3):(qbw s wv)[n.toNat]?=some (.int .i64 (qaq n s.p0 s.p1 s.p2 s.p3)):=by
 have a:n=0\/n=1\/n=2\/n=3:=by omega
 rcases a with rfl|rfl|rfl|rfl<;>rfl
theorem q6t {a:Value} (d:0<=n) (e:n<=3):(qcf s a)[n.toNat]?=some (.int .i64 (qaq n s.p0 s.p1 s.p2 s.p3)):=by
 have c:n=0\/n=1\/n=2\/n=3:=by omega
 rcases c with rfl|rfl|rfl|rfl<;>rfl
theorem qm9 {site seq:Int} (c:0<=site) (d:site<=3):atLeast site seq s=qth site.toNat (qb9 (qaq site s.p0 s.p1 s.p2 s.p3) seq) s:=by
 have a:site=0\/site=1\/site=2\/site=3:=by omega
 rcases a with rfl|rfl|rfl|rfl<;>rfl
theorem qy2 {site seq:Int} (a:0<=site) (c:site<=3) (h:¬qaq site s.p0 s.p1 s.p2 s.p3<seq):atLeast site seq s=s:=by
 have d:site=0\/site=1\/site=2\/site=3:=by omega
 rw[qm9 a c,qj6 h]
 rcases d with rfl|rfl|rfl|rfl<;>rfl
theorem qmo.keptB (h:qmo w b wv s) (a:∀k,(k=b\/wv.ownBlock=some k)->w'.heap[k]?=w.heap[k]?) (hs:w.heap.size<=w'.heap.size):qmo w' b wv s:=⟨h.box.kept (a b (.inl rfl)) hs,qad h.row (λk e=>a k (.inr e)),h.nb⟩
variable {w1 w2:World}
theorem qlj.after (h:qlj w b wv s w1) (hb:Below w1.heap.size w1 w2):qlj w b wv s w2:=by
 obtain⟨a,c,d,e⟩:=h;exact⟨a,c.later hb,d,e.trans (qae.ofBelow hb)⟩
theorem qlj.past (h:qlj w b wv s w1) {n:Nat} (c:n<4) (x:Int):qlj w b wv (qth n x s) (w1.setCell ⟨b,n,none⟩ (.int .i64 x)):=by
 obtain⟨d,a,f,g⟩:=h;have R:=a.box.set n (.int .i64 x) (by simp[qbw];omega);refine⟨d,⟨?_,qad a.row (λk e=>Below.heap_setCell _ _ _ _ (λi=>a.nb (by have j:k=b:=i;rw[<-j];exact e))),a.nb⟩,f,g.trans (qae.setCell _ _ _ (.inl rfl))⟩
 match n,c with
 |0,_=>exact R
 |1,_=>exact R
 |2,_=>exact R
 |3,_=>exact R
theorem qi2.after (h:qi2 w b G s w1) (hb:Below w1.heap.size w1 w2):qi2 w b G s w2:=by
 obtain⟨a,c,d,e⟩:=h;exact⟨a,c.later hb,d,e.trans (qae.ofBelow hb)⟩
theorem qi2.past (a:G b) (h:qi2 w b G s w1) {n:Nat} (c:n<4) (x:Int):qi2 w b G (qth n x s) (w1.setCell ⟨b,n,none⟩ (.int .i64 x)):=by
 obtain⟨g,d,e,f⟩:=h;exact q6r d e a f n c x
theorem qo7 (w:World):qaz w tx0.wa tx0.wc tx0.t.ws:=⟨Nat.le_refl _,by decide,.inl rfl⟩
theorem qhi (k:Nat):¬tx0.blk k:=λh=>absurd rfl h.1
variable {S:qaf}
theorem qlm {now:Int} (c:s.opn=true) (a:(qb6 s.ws).length≠0):
 qgo S s now=qnc S now s.s0 s.s1 s.s2 s.s3 (qb6 s.ws)/\qe7 S s now=qo6 S now s.s0 s.s1 s.s2 s.s3 (qb6 s.ws)/\qe9 S s now=qmt S now s.s0 s.s1 s.s2 s.s3 (qb6 s.ws):=by
 have n1:¬s.opn=false:=by rw[c];decide
 have n2:¬(s.opn=false\/(qb6 s.ws).length=0):=by rintro (h|h);exact n1 h;exact a h
 exact⟨by unfold qgo;rw[if_neg n1,if_neg a],by unfold qe7;rw[if_neg n2],by unfold qe9;rw[if_neg n2]⟩
theorem qo4 {now:Int} (c:s.opn=true) (a:(qb6 s.ws).length=0):
 qgo S s now=0/\qe7 S s now=tx0.t/\qe9 S s now=S/\qbe S s now=qhe s:=by
 have n1:¬s.opn=false:=by rw[c];decide
 have E:qgo S s now=0:=by unfold qgo;rw[if_neg n1,if_pos a]
 exact⟨E,by unfold qe7;rw[if_pos (.inr a)];rfl,by unfold qe9;rw[if_pos (.inr a)],by unfold qbe;rw[if_neg (by rw[E];decide),if_pos a]⟩
theorem qpg {now:Int} (a:s.opn=false):
 qgo S s now=6/\qe7 S s now=tx0.t/\qe9 S s now=S/\qbe S s now=s:=by
 have E:qgo S s now=6:=by unfold qgo;rw[if_pos a]
 exact⟨E,by unfold qe7;rw[if_pos (.inl a)];rfl,by unfold qe9;rw[if_pos (.inl a)],by unfold qbe;rw[if_pos (by rw[E];decide)]⟩
theorem qsb {now:Int} (c:s.opn=true) (d:(qb6 s.ws).length≠0) (a:qnc S now s.s0 s.s1 s.s2 s.s3 (qb6 s.ws)≠0):qbe S s now=s/\qmt S now s.s0 s.s1 s.s2 s.s3 (qb6 s.ws)=S/\qo6 S now s.s0 s.s1 s.s2 s.s3 (qb6 s.ws)=tx0.t:=by
 refine⟨by unfold qbe;rw[if_pos (by rw[(qlm c d).1];exact a)],by unfold qmt;rw[if_neg a],by unfold qo6;rw[if_neg a];rfl⟩
theorem qub {now:Int} (d:s.opn=true) (a:(qb6 s.ws).length≠0) (c:qnc S now s.s0 s.s1 s.s2 s.s3 (qb6 s.ws)=0):qbe S s now=atLeast (qo6 S now s.s0 s.s1 s.s2 s.s3 (qb6 s.ws)).site (qo6 S now s.s0 s.s1 s.s2 s.s3 (qb6 s.ws)).seq (qhe s)/\(qo6 S now s.s0 s.s1 s.s2 s.s3 (qb6 s.ws)).site=S.id:=by
 have y:=qlm (S:=S) (now:=now) d a;refine⟨by unfold qbe;rw[if_neg (by rw[y.1,c];decide),if_neg a,y.2.1],by unfold qo6;rw[if_pos c];rfl⟩
end
section
open Go.RowKit
section
variable {w w':World} {n o:Nat} {ps ps':Nat->qnm} {Gs:Nat->Nat->Prop} {X:Nat->Prop}
theorem qci.step2X (h:qci w n ps Gs X o NoY) {i j:Nat} (hi:i<n) (A:j<n) {p q:qnm} {Y:Nat->Prop} (N:qki p q w (Gs i) (Gs j) Y w') (O:∀x,q.is w' x->∀k,Y k->¬x k) (P:ps' i=p) (Q:ps' j=q) (R:∀m,m<n->m≠i->m≠j->ps' m=ps m):∃F,qci w' n ps' F X o NoY/\(∀m k,F m k->Gs m k\/w.heap.size<=k)/\qba X w w'/\qae (λk=>Gs i k\/Gs j k) w w'/\∀m k,m<n->Y k->w.heap.size<=k/\k<w'.heap.size/\¬F m k:=by
 obtain⟨C,x,p1,K,p2,H,L,D,t⟩:=N;refine⟨λm=>if m=i then C else if m=j then x else Gs m,⟨λm r=>?_,λa b k I hb J c l=>?_,λk c=>⟨Nat.lt_of_lt_of_le (h.free k c).1 t.size,λm r d=>?_⟩,λk c=>c.elim⟩,λm k c=>?_,⟨t.os,t.tape,t.output,t.size,λk c=>t.block k (h.free k c).1 (λe=>e.elim ((h.free k c).2 i hi) ((h.free k c).2 j A))⟩,t,λm k r c=>⟨(D k c).1,(D k c).2.1,λd=>?_⟩⟩
 ·by_cases g1:m=i
  ·rw[if_pos g1,g1,P];exact p1
  ·by_cases g:m=j
   ·rw[if_neg g1,if_pos g,g,Q];exact K
   ·rw[if_neg g1,if_neg g,R m r g1 g]
    exact(ps m).kept _ _ _ (h.is m r) (λk c=>t.block k ((ps m).lt _ _ (h.is m r) k c) (λe=>by
     rcases e with e|e
     ·exact h.apart m i k r hi g1 c e
     ·exact h.apart m j k r A g c e)) t.size
 ·have E:∀m,m<n->m≠i->m≠j->Gs m k->¬C k/\¬x k:=λm r g1 g d=>by
   have lt:=(ps m).lt _ _ (h.is m r) k d
   constructor
   ·intro e;rcases p2 k e with s|s
    ·exact h.apart m i k r hi g1 d s
    ·omega
   ·intro e;rcases H k e with s|s
    ·exact h.apart m j k r A g d s
    ·omega
  by_cases y:a=i
  ·rw[if_pos y]at c;have u:b≠i:=λe=>J (y.trans e.symm);rw[if_neg u]at l;by_cases v:b=j
   ·rw[if_pos v]at l;exact L k c l
   ·rw[if_neg v]at l;exact(E b hb u v l).1 c
  ·rw[if_neg y]at c;by_cases z:a=j
   ·rw[if_pos z]at c;have v:b≠j:=λe=>J (z.trans e.symm);by_cases u:b=i
    ·rw[if_pos u]at l;exact L k l c
    ·rw[if_neg u,if_neg v]at l;exact(E b hb u v l).2 c
   ·rw[if_neg z]at c;by_cases u:b=i
    ·rw[if_pos u]at l;exact(E a I y z c).1 l
    ·rw[if_neg u]at l;by_cases v:b=j
     ·rw[if_pos v]at l;exact(E a I y z c).2 l
     ·rw[if_neg v]at l;exact h.apart a b k I hb J c l
 ·have f:=h.free k c;by_cases g1:m=i
  ·rw[if_pos g1]at d;rcases p2 k d with s|s
   ·exact f.2 i hi s
   ·have:=f.1;omega
  ·rw[if_neg g1]at d;by_cases g:m=j
   ·rw[if_pos g]at d;rcases H k d with s|s
    ·exact f.2 j A s
    ·have:=f.1;omega
   ·rw[if_neg g]at d;exact f.2 m r d
 ·have c:(if m=i then C else if m=j then x else Gs m) k:=c;by_cases g1:m=i
  ·rw[if_pos g1]at c;rw[g1];exact p2 k c
  ·rw[if_neg g1]at c;by_cases g:m=j
   ·rw[if_pos g]at c;rw[g];exact H k c
   ·rw[if_neg g]at c;exact .inl c
 ·have d:(if m=i then C else if m=j then x else Gs m) k:=d;by_cases g1:m=i
  ·rw[if_pos g1]at d;exact(D k c).2.2 d
  ·rw[if_neg g1]at d;by_cases g:m=j
   ·rw[if_pos g]at d;exact O x K k c d
   ·rw[if_neg g]at d;have:=(ps m).lt _ _ (h.is m r) k d;have:=(D k c).1;omega
end
def wcE (W:WoS) (i:Nat):Int:=qgo (W.S (W.at_ i)) (W.ses i) (W.wall (W.at_ i))
def wcT (W:WoS) (i:Nat):TxP:=qe7 (W.S (W.at_ i)) (W.ses i) (W.wall (W.at_ i))
def qkv (W:WoS) (i:Nat):WoS:=qb1 (setSite W (W.at_ i) (qe9 (W.S (W.at_ i)) (W.ses i) (W.wall (W.at_ i)))) i (qbe (W.S (W.at_ i)) (W.ses i) (W.wall (W.at_ i)))
def wcW (W:WoS) (i:Nat):WoS:=if 0<(wcT W i).seq then qec (wcT W i) W.n (qkv W i)else qkv W i
def jbv (w:World) (b:Nat) (G:Nat->Prop) (W:WoS) (i:Nat) (e:Ending) (w':World):Prop:=
 ∃m:TxM,e=.returned (.tuple #[txV m,qbq (wcE W i)])/\m.t=wcT W i/\Hid (qaz w' m.wa m.wc m.t.ws/\∃G',PW w' b G' (wcW W i)/\(∀k,G' k->G k\/w.heap.size<=k)/\qae G w w'/\∀k,m.blk k->w.heap.size<=k/\¬G' k)
theorem qyj {S:qaf} {s:qbn} {now:Int} (h:qgo S s now≠0):qe7 S s now=tx0.t/\qe9 S s now=S/\qbe S s now=s:=by
 cases ho:s.opn with
 |false=>
  have:=qpg (S:=S) (now:=now) ho;exact⟨this.2.1,this.2.2.1,this.2.2.2⟩
 |true=>
  by_cases a:(qb6 s.ws).length=0
  ·exact absurd (qo4 (S:=S) (now:=now) ho a).1 h
  ·have y:=qlm (S:=S) (now:=now) ho a;rw[y.1]at h;have b:=qsb (S:=S) (now:=now) ho a h;exact⟨y.2.1.trans b.2.2,y.2.2.trans b.2.1,b.1⟩
variable {W1:WoS} {B:Nat}
section
variable {w wA wB wC wD:World} {b:Nat} {G Y:Nat->Prop} {M:WoM} {W W':WoS} {Gs:Nat->Nat->Prop} {i:Nat}
theorem PWo.com (h:PWo w b M W Gs) (hi:i<W.c) (u:W.at_ i<W.n) (l:Below w.heap.size w wA) {S':qaf} {a:qbn} (v:qki (qr3 (M.bs i) a) (qiy (M.bp (W.at_ i)) S' Y) wA (Gs (W.n+i)) (Gs (W.at_ i)) Y wB) (p:Below wB.heap.size wB wC):
 ∃d,PWo wC b M (qb1 (setSite W (W.at_ i) S') i a) d/\(∀m k,d m k->Gs m k\/wA.heap.size<=k)/\qae (λk=>Gs (W.n+i) k\/Gs (W.at_ i) k) w wC/\∀m k,m<W.n+W.c->Y k->wA.heap.size<=k/\k<wB.heap.size/\¬d m k:=by
 have r:=h.later l
 obtain⟨d,f,g,kp,x,y⟩:=r.fam.step2X (ps':=λm=>if m=W.at_ i then qiy (M.bp (W.at_ i)) S' Y else qe0 M (qb1 (setSite W (W.at_ i) S') i a) m) (i:=W.n+i) (j:=W.at_ i) (by omega) (by omega) v (λ_ q=>q.2) (by
  show (if W.n+i=W.at_ i then _ else _)=_;rw[if_neg (by omega)];show (if W.n+i<W.n then _ else _)=_;rw[if_neg (by omega)];show qr3 (M.bs (W.n+i-W.n)) (qcg W.ses i a (W.n+i-W.n))=_
  rw[show W.n+i-W.n=i by omega,qam]) (by show (if W.at_ i=W.at_ i then _ else _)=_;rw[if_pos rfl]) (λm s A t=>by
  show (if m=W.at_ i then _ else _)=_;rw[if_neg t];show (if m<W.n then qi8 (M.bp m) (qcg W.S (W.at_ i) S' m)else qr3 (M.bs (m-W.n)) (qcg W.ses i a (m-W.n)))=(if m<W.n then _ else _);by_cases q:m<W.n
  ·rw[if_pos q,if_pos q,qby _ _ t]
  ·rw[if_neg q,if_neg q,qby _ _ (by omega)])
 have f2:qci wB (W.n+W.c) (qe0 M (qb1 (setSite W (W.at_ i) S') i a)) d (qiu b M) (W.n+W.c) NoY:=by
  refine⟨λm s=>?_,f.apart,f.free,f.half⟩;have:=f.is m s;by_cases q:m=W.at_ i
  ·have e:(if m=W.at_ i then qiy (M.bp (W.at_ i)) S' Y else qe0 M (qb1 (setSite W (W.at_ i) S') i a) m)=qiy (M.bp (W.at_ i)) S' Y:=if_pos q;rw[e]at this
   have z:qe0 M (qb1 (setSite W (W.at_ i) S') i a) m=qi8 (M.bp (W.at_ i)) S':=by
        rw[q];show (if W.at_ i<W.n then qi8 (M.bp (W.at_ i)) (qcg W.S (W.at_ i) S' (W.at_ i))else _)=_;rw[if_pos u,qam]
   rw[z];exact this.1
  ·have e:(if m=W.at_ i then qiy (M.bp (W.at_ i)) S' Y else qe0 M (qb1 (setSite W (W.at_ i) S') i a) m)=qe0 M (qb1 (setSite W (W.at_ i) S') i a) m:=if_neg q;rw[e]at this;exact this
 exact⟨d,(r.keep kp f2 rfl rfl rfl rfl rfl rfl).later p,g,((qae.ofBelow l).trans x).trans (qae.ofBelow p),y⟩
theorem PWo.told (h:PWo w b M W Gs) (d:∀k,G k↔ql7 b M (W.n+W.c) Gs k) (hi:i<W.c) (J:W.at_ i<W.n) {f:Nat->Nat->Prop} (y:W1.n=W.n) (z:W1.c=W.c) (K:w.heap.size<=B) (L:B<=wC.heap.size) (g:∀m k,f m k->Gs m k\/B<=k) (p:qae (λk=>Gs (W.n+i) k\/Gs (W.at_ i) k) w wC) (r:∀m k,m<W.n+W.c->Y k->B<=k/\k<wC.heap.size/\¬f m k) (A:qh2 wC b M f (λk=>wC.heap.size<=k) W1 wD):
 ∃t,PW wD b t W1/\(∀k,t k->G k\/B<=k)/\qae G w wD/\∀k,Y k->B<=k/\¬t k:=by
 obtain⟨C,D,p1,p2,p3,t2⟩:=A;have E:=p.size
 have v:∀k,ql7 b {M with nv:=C,l:=D} (W1.n+W1.c) f k->G k\/wC.heap.size<=k\/(B<=k/\∃m,m<W.n+W.c/\f m k):=λk a=>by
  rw[y,z]at a;rcases a with (e|e|e|e|⟨x,F,e⟩)|⟨j,s,e⟩
  ·exact .inl ((d k).2 (.inl (.inl e)))
  ·exact .inl ((d k).2 (.inl (.inr (.inl e))))
  ·exact .inl ((d k).2 (.inl (.inr (.inr (.inl e)))))
  ·rcases p2 k e with q|q
   ·exact .inl ((d k).2 (.inl (.inr (.inr (.inr (.inl q))))))
   ·exact .inr (.inl q)
  ·rcases p3 x F with q|q
   ·exact .inl ((d k).2 (.inl (.inr (.inr (.inr (.inr ⟨x,q,e⟩))))))
   ·rw[e]at q;exact .inr (.inl q)
  ·rcases g j k e with q|q
   ·exact .inl ((d k).2 (.inr ⟨j,s,q⟩))
   ·exact .inr (.inr ⟨q,j,s,e⟩)
 have H:∀k,G k->k<w.heap.size:=λk a=>by
  rcases(d k).1 a with q|⟨j,s,q⟩
  ·exact h.ltF k q
  ·exact h.ltG s q
 refine⟨_,⟨_,f,p1,λ_=>Iff.rfl⟩,λk a=>?_,⟨t2.os.trans p.os,t2.tape.trans p.tape,t2.output.trans p.output,Nat.le_trans E t2.size,λk a u=>?_⟩,λk a=>⟨(r 0 k (by omega) a).1,λe=>?_⟩⟩
 ·rcases v k a with q|q|q
  ·exact .inl q
  ·exact .inr (by omega)
  ·exact .inr q.1
 ·refine(t2.block k (by omega) (λe=>u ((d k).2 (.inl (e.elim .inl (λq=>.inr (.inr (.inr (.inl q))))))))).trans (p.block k a (λe=>?_));rcases e with e|e
  ·exact u ((d k).2 (.inr ⟨W.n+i,by omega,e⟩))
  ·exact u ((d k).2 (.inr ⟨W.at_ i,by omega,e⟩))
 ·rcases v k e with q|q|⟨_,m,I,q⟩
  ·have:=H k q;have:=(r 0 k (by omega) a).1;omega
  ·have:=(r 0 k (by omega) a).2.1;omega
  ·exact(r m k I a).2.2 q
theorem q1t {m:TxM} (h:qaz wD m.wa m.wc m.t.ws/\∃a,PW wD b a W1/\(∀k,a k->G k\/B<=k)/\qae G w wD/\∀k,m.blk k->B<=k/\¬a k) (r:∀k,G k->k<w.heap.size) (y:w.heap.size<B) (x0 x1 x2 x3 d f g j:Int) (v:Value):
 Hid (qaz (qbu wD w.heap.size x0 x1 x2 x3 d f g j v) m.wa m.wc m.t.ws/\∃a,PW (qbu wD w.heap.size x0 x1 x2 x3 d f g j v) b a W1/\(∀k,a k->G k\/w.heap.size<=k)/\qae G w (qbu wD w.heap.size x0 x1 x2 x3 d f g j v)/\∀k,m.blk k->w.heap.size<=k/\¬a k):=by
 obtain⟨s,a,u,p,x,l⟩:=h
 have ne:∀k,a k->k≠w.heap.size:=λk c e=>by
  rcases p k c with q|q
  ·have:=r k q;omega
  ·omega
 have z:(qbu wD w.heap.size x0 x1 x2 x3 d f g j v).heap.size=wD.heap.size:=by simp only[qbu,World.setCell,Array.size_modify]
 refine⟨s.kept (λk c=>qem (λe=>by have:=(l k c).1;omega) _ _ _ _ _ _ _ _ _),a,u.kept (λk c=>qem (ne k c) _ _ _ _ _ _ _ _ _) (by omega),λk c=>?_,qyd x (Nat.le_refl _) _ _ _ _ _ _ _ _ _,λk c=>⟨by have:=(l k c).1;omega,(l k c).2⟩⟩;rcases p k c with q|q
 ·exact .inl q
 ·exact .inr (by omega)
end
end
section
open Go.RowKit
section
variable {w w1 w2:World} {b:Nat} {G:Nat->Prop} {W W1 W2:WoS}
theorem qd8.get (h:qd8 w b G W1 w1):∃a,PW w1 b a W1:=by
 obtain⟨a,c,_⟩:=h;exact⟨a,c⟩
theorem qd8.from (hb:Below w.heap.size w w1) (h:qd8 w1 b G W2 w2):qd8 w b G W2 w2:=by
 obtain⟨a,c,d,f⟩:=h;exact⟨a,c,λq g=>(d q g).elim .inl (λe=>.inr (Nat.le_trans hb.size e)),(qae.ofBelow hb).trans f⟩
end
variable {W:WoS} {i:Nat}
theorem jdl (a:WfW W) (hi:i<W.n):qqh.ok ⟨i,(W.S i).a0,(W.S i).a1,(W.S i).a2,(W.S i).a3⟩=true:=by
 have n4:=a.n4;have I:=a.inv i hi;have c:=I.a0;have d:=I.a1;have e:=I.a2;have f:=I.a3;unfold qd5 at c d e f;simp only[qqh.ok,Bool.and_eq_true,qa5,qay,qfs];refine⟨by omega,⟨⟨by omega,by omega⟩,by omega⟩,by omega⟩
variable {b:Nat} {G:Nat->Prop}
theorem qvu (w:World) (h:PW w b G W) (hi:i<W.n):
 Calls Tryz.prog 96 #[.pointer (some ⟨b,0,none⟩),.int .i64 i,.int .i64 i] w λe w'=>e=.returned (qbq 2)/\qd8 w b G W w':=by
 obtain⟨M,d,h,l⟩:=h;have m:Hid (PWo w b M W d/\(∀k,G k↔ql7 b M (W.n+W.c) d k)):=⟨h,l⟩;obtain⟨o,p,c0,q,r,s,t⟩:=h.place hi;have g:=qbh (k:=i) (v:=true) w c0 (by simp;omega);have u:=h.box.lt;clear h l;go_enter Tryz.func96,Tryz.ntmps96
 go_wp2_with fail
 refine g.mono ?_;rintro e w2 ⟨rfl,a⟩;have j:=a.symm;clear a;subst j
 go_wp2_with fail
 refine g.mono ?_;rintro e w2 ⟨rfl,a⟩;have j:=a.symm;clear a g;subst j
 go_wp2_with fail
 go_ret;exact⟨rfl,qd8.same ⟨M,d,m.out.1,m.out.2⟩ (Below.refl _ _)⟩
theorem q9n (w:World) (h:PW w b G W) (r:WfW W) {o:Nat} (hi:i<W.n) (R:o<W.n) (F:i≠o):
 Calls Tryz.prog 96 #[.pointer (some ⟨b,0,none⟩),.int .i64 i,.int .i64 o] w λe w'=>e=.returned (qbq 0)/\qd8 w b G (qvm W i o) w':=by
 obtain⟨M,l,h,s⟩:=h;have a:Hid (PWo w b M W l/\(∀k,G k↔ql7 b M (W.n+W.c) l k)/\WfW W):=⟨h,s,r⟩;obtain⟨T,U,c0,V,X,Y,Z⟩:=h.place hi;have t:=qbh (k:=i) (v:=true) w c0 (by simp;omega);have u:=qbh (k:=o) (v:=true) w c0 (by simp;omega);have aa:=h.box.lt
 have q1:(i:Int)<(W.n:Int):=by omega
 have x:=h.site hi
 have q3:¬(i:Int)=(o:Int):=by omega
 have y:=qgq w x;have H:Hid _:=hi;clear h s r x F;go_enter Tryz.func96,Tryz.ntmps96
 go_wp2_with fail
 refine t.mono ?_;rintro e w2 ⟨rfl,d⟩;have m:=d.symm;clear d t;subst m
 go_wp2_with fail
 refine u.mono ?_;rintro e w2 ⟨rfl,d⟩;have m:=d.symm;clear d u;subst m
 go_wp2_with fail
 refine y.mono ?_;rintro e I ⟨rfl,z⟩;have B:=qvo (jdl a.out.2.2 H.out) I;clear y
 go_wp2_with fail
 refine B.mono ?_;rintro e p ⟨S,g,C,rfl,⟨J,_⟩,hs,O,K⟩;have D:=qab z K;have L:w.heap.size<=g:=Nat.le_trans z.size O.base;have E:=a.out.1.later D
 have N:Hid (Calls Tryz.prog 144 #[.pointer (some ⟨b,0,none⟩),.agg #[.int .i64 o,.slice (some ⟨g,0,none⟩) S.size C]] p λe w'=>e=.returned (.tuple #[])/\qh2 p b M l (λk=>k=g) (qvm W i o) w'):=
  qrm p E ⟨⟨o,.ask i (W.S i).a0 (W.S i).a1 (W.S i).a2 (W.S i).a3⟩,g,C,S⟩ ⟨O.mono (Nat.zero_le _),hs,J⟩ (.inr (λe=>by
   rcases e with q|⟨j,P,q⟩
   ·have:g<w.heap.size:=a.out.1.ltF g q;omega
   ·have:g<w.heap.size:=a.out.1.ltG P q
    omega))
 clear B E
 go_wp2_with fail
 refine N.out.mono ?_;rintro e w5 ⟨rfl,Q⟩
 go_wp2_with fail
 go_ret;refine⟨rfl,?_⟩;have sm:=qbk W ⟨o,.ask i (W.S i).a0 (W.S i).a1 (W.S i).a2 (W.S i).a3⟩;exact(Q.from D).post (W:=W) a.out.2.1 sm.n sm.c (λk e=>.inr (by rw[e];exact L))
theorem q74 (w:World) (h:PW w b G W) {g:GrS} (hi:W.net[i]?=some g):
 Calls Tryz.prog 116 #[.pointer (some ⟨b,0,none⟩),.int .i64 i] w λe w'=>e=.returned (qbq 0)/\qd8 w b G (qdd W g) w':=by
 obtain⟨M,z,h,q⟩:=h
 have B:M.l.length=W.net.length:=by rw[<-h.nl];simp
 have C:i<M.l.length:=by have:=(List.getElem?_eq_some_iff.1 hi).1;omega
 obtain⟨m,a⟩:∃m,M.l[i]?=some m:=⟨_,List.getElem?_eq_getElem C⟩
 have D:m.g=g:=by
  have:=hi;rw[<-h.nl,List.getElem?_map,a]at this;exact Option.some.inj this
 subst D;have d:m∈M.l:=List.mem_of_getElem? a;obtain⟨E,J,s,r⟩:=qai h.nr
 obtain⟨nb,rfl,K,o⟩:∃g,E=some ⟨g,0,none⟩/\g<w.heap.size/\∀j u,(qgu M.l)[j]?=some u->w.cell? ⟨g,j,none⟩=some u:=by
  rcases r.held with t|t
  ·omega
  ·exact t
 have c2:=h.box.cell 2 _ rfl;rw[s]at c2;have x0:=o _ _ (qyt a).1;have x1:=o _ _ (qyt a).2;have x:=qgc (k:=i) (v:=true) w c2 (by simp;omega);have F:=qrm w h m (h.gr m d) (.inl ⟨m,d,rfl⟩);have p:Hid ((∀k,G k↔ql7 b M (W.n+W.c) z k)/\m∈M.l):=⟨q,d⟩;have L:=h.box.lt
 have N:(i:Int)<(M.l.length:Int):=by omega
 have O:=r.len;clear h q o r s a d hi B;go_enter Tryz.func116,Tryz.ntmps116
 go_wp2_with fail
 refine x.mono ?_;rintro e w2 ⟨rfl,y⟩;have H:=y.symm;clear y x;subst H
 go_wp2_with fail
 refine F.mono ?_;rintro e P ⟨rfl,I⟩
 go_wp2_with fail
 go_ret;have sm:=qbk W m.g;exact⟨rfl,I.post (W:=W) p.out.1 sm.n sm.c (λk e=>.inl ((p.out.1 k).2 (.inl (.inr (.inr (.inr (.inr ⟨m,p.out.2,e.symm⟩)))))))⟩
end
section
open Go.RowKit
theorem qk4 (l a:List GrM):qgu (l++a)=qgu l++qgu a:=by simp[qgu]
theorem qxh (l:List GrM):∀u∈qgu l,u.oneCell'=true:=by
 intro u a;obtain⟨x,_,b⟩:=List.mem_flatMap.1 a;exact quh x u b
theorem q7i:∀w,(zeroValue 205).run Tryz.prog w=.ok (.agg #[.int .i64 0,.slice none 0 0]) w:=λw=>by kernel_rfl
theorem qio:(Builtin.zeroCells (Value.agg #[.int .i64 0,.slice none 0 0]).cells 1).toList=[.int .i64 0,.slice none 0 0]:=by
 simp only[Builtin.zeroCells,Array.toList_map];have a:(Value.agg #[.int .i64 0,.slice none 0 0]).cells=#[.int .i64 0,.slice none 0 0]:=rfl;rw[a];have e:(#[Value.int .i64 0,.slice none 0 0]:Array Value).size=2:=rfl;rw[e];simp[List.range_succ]
theorem qux:∀u∈(Builtin.zeroCells (Value.agg #[.int .i64 0,.slice none 0 0]).cells 1).toList,u.oneCell'=true:=by
 rw[qio];intro u a;simp at a
 rcases a with rfl|rfl<;>rfl
theorem q5i {g cap i:Nat} {l:List GrM} (w:World) (p:w.ownsRow 0 205 2 (.slice (some ⟨g,0,none⟩) l.length cap) l.length (qgu l)) (hi:i<l.length) (V:l.length<=300):
 Calls Tryz.prog 153 #[.slice (some ⟨g,0,none⟩) l.length cap,.int .i64 i,.int .i64 ((i:Int)+1)] w λe w'=>e=.returned (.slice (some ⟨g,0,none⟩) (l.length-1) cap)/\w'.ownsRow 0 205 2 (.slice (some ⟨g,0,none⟩) (l.length-1) cap) (l.length-1) (qgu (l.eraseIdx i))/\qdw g w w':=by
 obtain⟨i0,D,hz0,E,hz2⟩:=info_parts qxs
 obtain⟨cur,m,W,F,G⟩:∃cur,w.heap[g]?=some (.cells cur 205 (0,0))/\l.length<=cap/\cap<=maxLen/\cur.size=cap*2:=by
  rcases p.2 with ⟨h,_⟩|⟨g2,cap2,cur,e,hb,X,Y,Z,hs,n⟩
  ·cases h
  ·injection e with a e2 e3;injection a with a;injection a with a;subst a e3;exact⟨cur,X,Y,Z,hs⟩
 have q:∀j u,(qgu l)[j]?=some u->w.cell? ⟨g,j,none⟩=some u:=λj u b=>by
  have d:=p.cells (g:=g) rfl j u b;rw[qc7]at d;exact d
 have r:∀j,j<cap*2->(w.cell? ⟨g,j,none⟩).isSome=true/\w.frozen? ⟨g,j,none⟩=false:=λj c=>by
  constructor
  ·rw[cell_of_row w g j cur _ (0,0) m,Array.getElem?_eq_getElem (by omega)];rfl
  ·unfold World.frozen?;rw[m];simp
 have H:qgu (l.eraseIdx i)=qgu (l.take i)++qgu (l.drop (i+1)):=by rw[List.eraseIdx_eq_take_drop_succ,qk4]
 have s:(qgu (l.take i)).length=i*2:=by rw[qir,List.length_take];omega
 have lv:(qgu (l.drop (i+1))).length=(l.length-(i+1))*2:=by rw[qir,List.length_drop]
 have I:qgu l=qgu (l.take (i+1))++qgu (l.drop (i+1)):=by rw[<-qk4,List.take_append_drop]
 have v:(qgu (l.take (i+1))).length=(i+1)*2:=by rw[qir,List.length_take];omega
 obtain⟨W1,x⟩:∃W1,W1=w.drew.setCells g (0+i*2) (qgu (l.drop (i+1))):=⟨_,rfl⟩
 have y:=qnk (w:=w.drew) (g:=g) (qgu (l.take i)) (qgu (l.drop (i+1))) [.int .i64 0,.slice none 0 0] (λj u b=>by
  refine q j u ?_
  have:qgu l=qgu (l.take i)++qgu (l.drop i):=by rw[<-qk4,List.take_append_drop]
  rw[this,List.getElem?_append_left (List.getElem?_eq_some_iff.1 b).1]
  exact b) (λj c=>(r j (by rw[s,lv]at c;simp at c;omega)).1)
 rw[s,lv,show i*2+(l.length-(i+1))*2=(l.length-1)*2 by omega]at y;have J:w.drew.heap[g]?=some (.cells cur 205 (0,0)):=m;obtain⟨K,z,L⟩:=qct g (qgu (l.drop (i+1))) (i*2) w.drew J;obtain⟨cur2,M,N⟩:=qct g [.int .i64 0,.slice none 0 0] ((l.length-1)*2) _ z
 have O:Hid (((w.drew.setCells g (i*2) (qgu (l.drop (i+1)))).setCells g ((l.length-1)*2) [.int .i64 0,.slice none 0 0]).ownsRow 0 205 2 (.slice (some ⟨g,0,none⟩) (l.length-1) cap) (l.length-1) (qgu (l.eraseIdx i))):=by
  refine qg4 (Nat.zero_le _) M F (by rw[N,L,G]) (by omega) (by rw[qir,List.length_eraseIdx,if_pos hi]) (λj u b=>?_);rw[H]at b;exact y j u (by rw[List.getElem?_append_left (List.getElem?_eq_some_iff.1 b).1];exact b)
 have P:Hid (qdw g w ((w.drew.setCells g (i*2) (qgu (l.drop (i+1)))).setCells g ((l.length-1)*2) [.int .i64 0,.slice none 0 0])):=
  qdw.trans (qdw.trans (qdw.ofBelow (Below.refl _ w).drew) (qbz g _ _ _) (.inl rfl)) (qbz g _ _ _) (.inl rfl)
 have s3:Hid (∀t,t<(qgu (l.drop (i+1))).length->(w.drew.cell? ⟨g,0+i*2+t,none⟩).isSome=true/\w.drew.frozen? ⟨g,0+i*2+t,none⟩=false):=λt n=>by
  rw[lv]at n;exact r _ (by omega)
 have aa:∀B,(Builtin.clear_ #[160] B #[.slice (some ⟨g,(l.length-1)*2,none⟩) 1 (cap-(l.length-1))]).run Tryz.prog W1=.ok (.tuple #[]) (W1.setCells g ((l.length-1)*2) [.int .i64 0,.slice none 0 0]):=λB=>by
  have Q:∀j,j<cap*2->(W1.cell? ⟨g,j,none⟩).isSome=true/\W1.frozen? ⟨g,j,none⟩=false:=λj c=>by
   have R:W1.heap[g]?=some (.cells K 205 (0,0)):=by rw[x,Nat.zero_add];exact z
   constructor
   ·rw[cell_of_row W1 g j K _ (0,0) R,Array.getElem?_eq_getElem (by omega)];rfl
   ·unfold World.frozen?;rw[R];simp
  have S:(Builtin.zeroCells (Value.agg #[.int .i64 0,.slice none 0 0]).cells 1).size=2:=by rw[<-Array.length_toList,qio];rfl
  have:=qoa W1 160 205 B (.agg #[.int .i64 0,.slice none 0 0]) Tryz.underlying160 q7i g ((l.length-1)*2) 1 (cap-(l.length-1)) (by omega) qux (λj c=>(Q _ (by rw[S]at c;omega)).1) (λj c=>(Q _ (by rw[S]at c;omega)).2);rw[qio]at this;exact this
 have o:Hid _:=x
 have q0:(i:Int)<(l.length:Int):=by omega
 have q1:(i:Int)+1<=(l.length:Int):=by omega
 have q2:(l.length:Int)<=(cap:Int):=by omega
 have q3:(i:Int)<=(cap:Int):=by omega
 have q4:(i:Int)+1<=(cap:Int):=by omega
 have q5:(l.length:Int)<=300:=by omega
 have q6:i+(l.length-(i+1))=l.length-1:=by omega
 have q7:¬(i:Int)=(i:Int)+1:=by omega
 have q8:(i:Int)<=(i:Int)+1:=by omega
 have q9:0<=(i:Int)+1:=by omega
 have q10:l.length-(l.length-1)=1:=by omega
 have k:Hid (i<l.length/\l.length<=cap):=⟨hi,W⟩
 have T:Hid (∀A:Addr,(if cap=i+1 then some (⟨g,0,none⟩:Addr)else some ⟨g,(i+1)*2,none⟩)=some A->∀t u,(qgu (l.drop (i+1)))[t]?=some u->w.drew.cell? (A.add t)=some u):=λA U t u b=>by
  by_cases d:cap=i+1
  ·have:l.length-(i+1)=0:=by omega
   have n:=(List.getElem?_eq_some_iff.1 b).1;rw[lv,this]at n;omega
  ·rw[if_neg d]at U;have hA':(⟨g,(i+1)*2,none⟩:Addr)=A:=Option.some.inj U;subst hA'
   have hadd:(⟨g,(i+1)*2,none⟩:Addr).add t=⟨g,(i+1)*2+t,none⟩:=by unfold Addr.add;split<;>simp_all
   rw[hadd];refine q _ u ?_;rw[I,List.getElem?_append_right (by rw[v];omega),v,show (i+1)*2+t-(i+1)*2=t by omega];exact b
 have s1:Hid _:=lv;clear p y z M L N J m G r q H s lv I v hi V x F;by_cases d:cap=i+1
 ·subst d
  have z1:l.length-i=1:=by have:=k.out;omega
  have z2:l.length-1=i:=by have:=k.out;omega
  rw[z2,show i+1-i=1 by omega]at aa;have Z2:Hid _:=z2;clear z2 q10 q6;have C:Hid _:=T.out _ (if_pos rfl);go_enter Tryz.func153,Tryz.ntmps153
  go_wp2_with fail
  go_region_law (refine step_append_room rfl (.tmp 22) (.tmp 25) 160 rfl 205 i0 2 Tryz.underlying160 D E g 0 i (i+1) (by simp[Act.eval,Act.put]) ⟨g,0,none⟩ (l.length-(i+1)) 0 (qgu (l.drop (i+1))) (by simp[Act.eval,Act.put];have:=k.out;omega) s1.out C.out (qxh _) (by have:=k.out;omega) s3.out ?_
                 rw[<-o.out])
  all_goals
   go_wp2_with fail
   go_ret;have a:=o.out;rw[Nat.zero_add]at a;subst a;have f1:=O.out;have f2:=P.out;rw[Z2.out]at f1 f2 ⊢;exact⟨rfl,f1,f2⟩
 ·have C:Hid _:=T.out _ (if_neg d);go_enter Tryz.func153,Tryz.ntmps153
  go_wp2_with fail
  go_region_law (refine step_append_room rfl (.tmp 22) (.tmp 25) 160 rfl 205 i0 2 Tryz.underlying160 D E g 0 i cap (by simp[Act.eval,Act.put]) ⟨g,(i+1)*2,none⟩ (l.length-(i+1)) (cap-(i+1)) (qgu (l.drop (i+1))) (by simp[Act.eval,Act.put]) s1.out C.out (qxh _) (by have:=k.out;omega) s3.out ?_
                 rw[<-o.out])
  all_goals
   go_wp2_with fail
   go_ret;have a:=o.out;rw[Nat.zero_add]at a;subst a;exact⟨rfl,O.out,P.out⟩
end
section
open Go.Value Go.IntKind Go.RowKit
theorem q7w {b B:Nat} {F:Nat->Prop} {l:List Hd} (a0 a1 a2 a3:Int) (w:World) (N:qp6 w b B F l) (hl:l.length<=1000) (O:qiz l) (Q:∀h∈l,qd2 h.v=true):
 Calls Tryz.prog 217 #[.pointer (some ⟨b,B,none⟩),.agg #[int i64 a0,int i64 a1,int i64 a2,int i64 a3]] w λe w'=>∃v,e=.returned v/\w'.ownsRow w.heap.size 9 1 v 8 (qhj a0 a1 a2 a3 l 8)/\Below w.heap.size w w':=by
 have g:=qag.new (w:=w) (T:=77) [int i64 a0,int i64 a1,int i64 a2,int i64 a3] rfl;have hb:=boxed (Below.refl _ w) (.cells #[int i64 a0,int i64 a1,int i64 a2,int i64 a3] 77);have R:Hid (qp6 w b B F l):=N;have HA:Hid (qiz l):=O;have S:Hid (∀h∈l,qd2 h.v=true):=Q;clear N O Q;obtain⟨i0,hi,U,V,W⟩:=info_parts qmq;obtain⟨C,D,E,G⟩:=run_make_full (P:=Tryz.prog) (w.alloc (.cells #[int i64 a0,int i64 a1,int i64 a2,int i64 a3] 77)) w.heap.size 42 9 i0 (.string ⟨#[]⟩) 1 Tryz.underlying42 hi U V .i64 .i64 8 (by rw[W];decide) (by simp[maxLen]) (by simp)
 have hmk2:(Instr.makeSlice 42 (int i64 8) (int i64 8)).run Tryz.prog (w.alloc (.cells #[int i64 a0,int i64 a1,int i64 a2,int i64 a3] 77))=.ok (.slice (some ⟨w.heap.size+1,0,none⟩) 8 8) C:=by
  rw[World.size_alloc]at D;exact D
 have X:C.ownsRow w.heap.size 9 1 (.slice (some ⟨w.heap.size+1,0,none⟩) 8 8) 8 (qw6 a0 a1 a2 a3 l 0):=by
  rw[World.size_alloc,show (Value.string ⟨#[]⟩).cells=#[Value.string ⟨#[]⟩]from rfl,toList_madeCells_one]at E;exact E
 have Y:=g.grown G (by simp);have c:Below w.heap.size w C:=hb.grown G hb.size (λk e=>by cases e);clear D E g hb G hi U V W;go_enter Tryz.func217,Tryz.ntmps217
 go_wp2_with fail
 clear hmk2
 go_loopw [12] (λiv wr=>∃(k:Nat) (z:Int),k<=8/\z=k/\iv=int i64 z/\wr.ownsRow w.heap.size 9 1 (.slice (some ⟨w.heap.size+1,0,none⟩) 8 8) 8 (qw6 a0 a1 a2 a3 l k)/\qag wr w.heap.size [int i64 a0,int i64 a1,int i64 a2,int i64 a3]/\Below w.heap.size w wr) (λi _=>8-(intOf i).toNat)
 case atStart=>exact⟨0,0,by omega,rfl,rfl,X,Y,c⟩
 case round=>
  clear X Y c;obtain⟨k,z,hk,H,rfl,d,g,hb⟩:=hrel;have r:Hid (z=k):=H;by_cases Z:k<8
  ·have h1:z<8:=by omega
   have h3:0<=z:=by omega
   have h2:z.toNat=k:=by omega
   have S4:=R.out.kept (λj I=>hb.block j (R.out.lt j I)) hb.size;obtain⟨c0,c1,c2,c3⟩:=g.c4;clear H
   go_wp2_with fail
   refine(qto z a0 a1 a2 a3 _ S4 hl HA.out S.out).mono ?_;rintro e w2 ⟨rfl,c⟩;clear c0 c1 c2 c3 S4;have J:=qql (key:=z) (a0:=a0) (a1:=a1) (a2:=a2) (a3:=a3) S.out
   have q:Hid (qhh a0 a1 a2 a3 l k=if (qdu z a0 a1 a2 a3 l).2=0 then (⟨#[61]⟩:ByteArray)++(qdu z a0 a1 a2 a3 l).1.data else ⟨#[]⟩):=by
        show qhh a0 a1 a2 a3 l k=_;rw[r.out];rfl
   obtain⟨⟨rv,K⟩,hrd⟩:∃x,qdu z a0 a1 a2 a3 l=x:=⟨_,rfl⟩;rw[hrd]at q J ⊢;simp only at q J ⊢;clear hrd;obtain⟨m,n,bs,o,a,p⟩:=rv;simp only at q J;rw[show qah ⟨m,n,bs,o,a,p⟩=[int i64 m,int i64 n,int i64 bs,int i64 o,.string a,.bool p]from rfl];replace g:=(g.later c).boxed (.cells #[int i64 m,int i64 n,int i64 bs,int i64 o,.string a,.bool p] 130);have ownk1:w2.ownsRow w.heap.size 9 1 (.slice (some ⟨w.heap.size+1,0,none⟩) 8 8) 8 (qw6 a0 a1 a2 a3 l k):=d.kept (row:=none) ⟨c.os,c.tape,c.output,c.size,λj I _=>c.block j I⟩ (by simp[Value.ownBlock]);replace d:=ownk1.alloc (.cells #[int i64 m,int i64 n,int i64 bs,int i64 o,.string a,.bool p] 130);replace hb:=boxed (qab hb c) (.cells #[int i64 m,int i64 n,int i64 bs,int i64 o,.string a,.bool p] 130);have RB:=qag.new (w:=w2) (T:=130) [int i64 m,int i64 n,int i64 bs,int i64 o,.string a,.bool p] rfl;clear c ownk1;have d3:=RB.cell 4 _ rfl;clear RB;by_cases L:K=0
   ·subst L
    have M:Hid (qhh a0 a1 a2 a3 l k=(⟨#[61]⟩:ByteArray)++a):=by show qhh a0 a1 a2 a3 l k=_;rw[q.out,if_pos rfl]
    have ad:=λw=>qnh (P:=Tryz.prog) (⟨#[61]⟩:ByteArray) a (by have z:(⟨#[61]⟩:ByteArray).size=1:=rfl;omega) w;have ev:qbq 0=.nilIface:=rfl;rw[ev];have cc:=d.cellAt k (by omega);have cx:∃u,(qw6 a0 a1 a2 a3 l k)[k]?=some u:=⟨_,List.getElem?_eq_getElem (by simp[qw6,qje];omega)⟩;obtain⟨ux,hux⟩:=cx;rw[hux]at cc;have ff:=d.frozenAt k;have y:=d.stored k (.string ((⟨#[61]⟩:ByteArray)++a));have hbl:=g.lt;have RA9:=g.grown y.2 (by simp);have hb9:=hb.grown y.2 (by have:=hb.size;omega) (λj e=>by cases e;omega)
    have s:((w2.alloc (.cells #[int i64 m,int i64 n,int i64 bs,int i64 o,.string a,.bool p] 130)).setCell ⟨w.heap.size+1,k,none⟩ (.string ((⟨#[61]⟩:ByteArray)++a))).ownsRow w.heap.size 9 1 (.slice (some ⟨w.heap.size+1,0,none⟩) 8 8) 8 (qw6 a0 a1 a2 a3 l (k+1)):=by
     rw[<-q66 Z,M.out];exact y.1
    clear q hux y d
    go_wp2_with fail
    go_roundw
    case rel=>exact⟨k+1,z+1,by omega,by have:=r.out;omega,by go_num,s,RA9,hb9⟩
    case measure=>simp[intOf];have:=r.out;omega
   ·have ev:qbq K=.iface 26 (int i64 K):=by unfold qbq;rw[if_neg L]
    rw[ev]
    have M:Hid (qhh a0 a1 a2 a3 l k=⟨#[]⟩):=by show qhh a0 a1 a2 a3 l k=_;rw[q.out,if_neg L]
    have s:(w2.alloc (.cells #[int i64 m,int i64 n,int i64 bs,int i64 o,.string a,.bool p] 130)).ownsRow w.heap.size 9 1 (.slice (some ⟨w.heap.size+1,0,none⟩) 8 8) 8 (qw6 a0 a1 a2 a3 l (k+1)):=by
     rw[<-q5r Z M.out];exact d
    clear q d ev
    go_wp2_with fail
    go_roundw
    case rel=>exact⟨k+1,z+1,by omega,by have:=r.out;omega,by go_num,s,g,hb⟩
    case measure=>simp[intOf];have:=r.out;omega
  ·obtain rfl:k=8:=by omega
   have h1:¬z<8:=by omega
   clear H
   have s:wr.ownsRow w.heap.size 9 1 (.slice (some ⟨w.heap.size+1,0,none⟩) 8 8) 8 (qhj a0 a1 a2 a3 l 8):=by
        have e:qw6 a0 a1 a2 a3 l 8=qhj a0 a1 a2 a3 l 8:=by unfold qw6;simp
        rw[<-e];exact d
   clear d
   go_wp2_with fail
   go_ret;exact⟨_,rfl,s,hb⟩
end
section
open Go.RowKit Go.Maps
variable {b:Nat} {G:Nat->Prop} {S:qaf}
theorem q4e (w:World) (h:PS w b G S):
 Calls Tryz.prog 159 #[.pointer (some ⟨b,0,none⟩)] w λe w'=>e=.returned (.int .i64 S.waits.length)/\Below w.heap.size w w':=by
 obtain⟨lv,bm,F,log,waits,a,_,d⟩:=h.mem;have j:=a.box.cell 8 _ rfl;obtain⟨_,_,k,g,i⟩:=a.map
 have l:∀c,(Builtin.len_ #[214] c #[.map (some bm)]).run Tryz.prog w=.ok (.int .i64 S.waits.length) w:=λc=>by
  have:=g.len Tryz.underlying214 c;rw[i.size,d]at this;exact this
 clear a h g i d;go_enter Tryz.func159,Tryz.ntmps159
 go_wp2_with fail
 go_ret;exact⟨rfl,Below.refl _ _⟩
theorem q78 (w:World) (h:PS w b G S) (c:qcx S):
 Calls Tryz.prog 160 #[.pointer (some ⟨b,0,none⟩)] w λe w'=>∃v,e=.returned v/\w'.ownsRow w.heap.size 9 1 v 8 (qhj S.a0 S.a1 S.a2 S.a3 S.l 8)/\Below w.heap.size w w':=by
 obtain⟨lv,bm,F,log,waits,a,_,_⟩:=h.mem;have m:=a.box.cell 1 _ rfl;have n:=a.box.cell 2 _ rfl;have o:=a.box.cell 3 _ rfl;have p:=a.box.cell 4 _ rfl
 have g:Hid (Calls Tryz.prog 217 #[.pointer (some ⟨b,25,none⟩),.agg #[.int .i64 S.a0,.int .i64 S.a1,.int .i64 S.a2,.int .i64 S.a3]] w.drew λe w'=>∃v,e=.returned v/\Hid (w'.ownsRow w.heap.size 9 1 v 8 (qhj S.a0 S.a1 S.a2 S.a3 S.l 8)/\Below w.heap.size w w')):=
  (q7w S.a0 S.a1 S.a2 S.a3 w.drew (a.later (Below.refl _ w).drew).st c.many c.apart c.ok).mono λe w' ⟨v,i,j,k⟩=>⟨v,i,j,qab (Below.refl _ w).drew k⟩
 clear a h c;go_enter Tryz.func160,Tryz.ntmps160
 go_wp2_with fail
 go_region_law (refine qav rfl 217 #[.pointer (some ⟨b,25,none⟩),.agg #[.int .i64 S.a0,.int .i64 S.a1,.int .i64 S.a2,.int .i64 S.a3]] (by go_simp) g.out ?_
                rintro e w2 ⟨v,rfl,d⟩
                refine⟨_,rfl,?_⟩)
 all_goals
  go_wp2_with fail
  go_ret;exact⟨_,rfl,d.out.1,d.out.2⟩
end
section
open Go.RowKit
theorem qoq {tmps:Array Value} {w:World} {g:Nat} {x:Wr} {v:Bool} (h:qag w g [.int .i64 x.key,.string x.data,.bool x.gone]) (a:tmps[4]?=some (.pointer (some ⟨g,0,none⟩))) (b:tmps[5]?=some (.bool v)):
 (results Tryz.f78 tmps).run Tryz.prog w=.ok (.tuple #[wrV x,.bool v]) w:=by
 have z0:=h.cell 0 _ rfl;have c:=h.cell 1 _ rfl;have z2:=h.cell 2 _ rfl;simp[results,Tryz.results78,go_sem,a,b,z0,c,z2,wrV]
theorem qna {b:Nat} {wv:Value} {s:qbn} (key:Int) (w:World) (h:qmo w b wv s):
 Calls Tryz.prog 78 #[.pointer (some ⟨b,0,none⟩),.int .i64 key] w λe w'=>e=.returned (.tuple #[wrV (qeg s.ws key),.bool (qf1 s.ws key).isSome])/\Below w.heap.size w w':=by
 have hb:=boxed (Below.refl _ w) (.cells #[.int .i64 0,.string ⟨#[]⟩,.bool false] 100);have RW:=qag.new (w:=w) (T:=100) [.int .i64 0,.string ⟨#[]⟩,.bool false] rfl;change qag (w.alloc (.cells #[.int .i64 0,.string ⟨#[]⟩,.bool false] 100)) w.heap.size [.int .i64 0,.string ⟨#[]⟩,.bool false]at RW;have q:=h.later hb;obtain⟨a,cap,rfl,o⟩:=qdn q.row;have c9:=q.box.cell 9 _ rfl;have Q:=o.len;have R:=o.cap;have M:Hid _:=o;have F:Hid (∀x:Wr,qag (w.alloc (.cells #[.int .i64 x.key,.string x.data,.bool x.gone] 100)) w.heap.size [.int .i64 x.key,.string x.data,.bool x.gone]):=λx=>qag.new (w:=w) (T:=100) [.int .i64 x.key,.string x.data,.bool x.gone] rfl;have G:Hid (∀x:Wr,Below w.heap.size w (w.alloc (.cells #[.int .i64 x.key,.string x.data,.bool x.gone] 100))):=λx=>boxed (Below.refl _ w) _;have S:=RW.cell 0 _ rfl;have U:=RW.cell 1 _ rfl;have V:=RW.cell 2 _ rfl;have f0:=RW.free 0 (by simp);have f1:=RW.free 1 (by simp);have f2:=RW.free 2 (by simp);clear h q o RW hb;go_enter Tryz.func78,Tryz.ntmps78
 go_wp2_with fail
 go_loopw [6] (λiv wr=>∃(k:Nat) (z:Int),k<=s.ws.length/\z=k-1/\iv=.int .i64 z/\Hid (∀j y,k<=j->s.ws[j]?=some y->y.key≠key)/\wr=w.alloc (.cells #[.int .i64 0,.string ⟨#[]⟩,.bool false] 100)) (λi _=>(intOf i+1).toNat)
 case atStart=>exact⟨s.ws.length,s.ws.length-1,Nat.le_refl _,rfl,by go_num,(λj y r c=>by rw[List.getElem?_eq_none r]at c;cases c),rfl⟩
 case round=>
  obtain⟨k,z,W,u,rfl,v,rfl⟩:=hrel;have N:Hid _:=u;cases k with
  |zero=>
   have g1:¬0<=z:=by omega
   have l:Hid (qf1 s.ws key=none):=q25 (λj y c=>v.out j y (by omega) c);clear u
   go_wp2_with fail
   refine bodyPost_ret (qoq (F.out ⟨0,⟨#[]⟩,false⟩) rfl rfl) rfl ⟨?_,G.out ⟨0,⟨#[]⟩,false⟩⟩;rw[l.out,show qeg s.ws key=⟨0,⟨#[]⟩,false⟩ by unfold qeg;rw[l.out];rfl];rfl
  |succ k=>
   have g1:0<=z:=by omega
   have X:z.toNat=k:=by omega
   have g3:z<(s.ws.length:Int):=by omega
   have p:k<s.ws.length:=by omega
   clear u
   obtain⟨B,C,rfl,H⟩:∃B C,a=some ⟨B,C,none⟩/\qd4 (w.alloc (.cells #[.int .i64 0,.string ⟨#[]⟩,.bool false] 100)) B C s.ws:=by
        rcases M.out.held with D|D
        ·rw[D]at p;simp at p
        ·exact D
   obtain⟨⟨d,m,n⟩,E⟩:∃x,s.ws[k]?=some x:=⟨s.ws[k],List.getElem?_eq_getElem p⟩
   have I:qgi s.ws k=⟨d,m,n⟩:=by unfold qgi;rw[List.getD_eq_getElem?_getD,E];rfl
   have J:=H k p;rw[I]at J;obtain⟨x0,x1,x2⟩:=J;have K:Hid _:=E;clear H I E;by_cases g:d=key
   ·have O:(d==key)=true:=by simp[g]
    have l:Hid (qf1 s.ws key=some ⟨d,m,n⟩):=jbk K.out g (λj y r c=>v.out j y (by omega) c);clear g
    go_wp2_with fail
    refine bodyPost_ret (qoq (F.out ⟨d,m,n⟩) rfl rfl) rfl ⟨?_,G.out ⟨d,m,n⟩⟩;rw[l.out,show qeg s.ws key=⟨d,m,n⟩ by unfold qeg;rw[l.out];rfl];rfl
   ·have O:(d==key)=false:=by simp[g]
    have P:Hid _:=g;clear g
    go_wp2_with fail
    go_roundw
    case rel=>exact⟨k,z-1,by omega,by have:=N.out;omega,by go_num,(λj y r c=>by
     rcases Nat.lt_or_ge k j with L|L
     ·exact v.out j y L c
     ·have e:j=k:=by omega
      subst e;rw[K.out]at c;injection c with c;rw[<-c]
      exact P.out),trivial⟩
    case measure=>simp[intOf];omega
end
section
open Go.RowKit
theorem qq4 {b:Nat} {wv:Value} {s:qbn} (w:World) (h:qmo w b wv s):
 Calls Tryz.prog 80 #[.pointer (some ⟨b,0,none⟩)] w λe w'=>∃v,e=.returned v/\w'.ownsRow w.heap.size 100 3 v (qb6 s.ws).length (qhp (qb6 s.ws))/\Below w.heap.size w w':=by
 have G:Hid _:=h;clear h;obtain⟨i0,hi,H,I,J⟩:=info_parts qpf;go_enter Tryz.func80,Tryz.ntmps80
 go_wp2_with fail
 go_loopw [3,7] (λK iv wr=>∃(k:Nat) (z:Int),k<=8/\z=k/\iv=.int .i64 z/\wr.ownsRow w.heap.size 100 3 K (qed s.ws k).length (qhp (qed s.ws k))/\Below w.heap.size w wr) (λ_ i _=>8-(intOf i).toNat)
 case atStart=>exact⟨0,0,by omega,rfl,rfl,World.ownsRow_nil _ _ _ _,Below.refl _ _⟩
 case round=>
  obtain⟨k,z,X,m,rfl,own,hb⟩:=hrel;have q:Hid _:=m;have Y:=qmb s.ws k;by_cases Z:k<8
  ·have L:z<8:=by omega
   have h0:0<=z:=by omega
   have g:=qna z wr (G.out.later hb);have r:Hid (qed s.ws (k+1)=qed s.ws k++(match qf1 s.ws (k:Int)with|some x=>[x]|none=>[])):=qj5 s.ws k;rw[m]at g;cases ho:qf1 s.ws (k:Int)with
   |none=>
    have n:qeg s.ws (k:Int)=⟨0,⟨#[]⟩,false⟩:=by unfold qeg;rw[ho];rfl
    have C:Hid (qed s.ws (k+1)=qed s.ws k):=by show _=_;rw[r.out,ho];simp
    rw[ho,n]at g;rw[<-m]at g;clear m ho n r
    go_wp2_with fail
    refine g.mono ?_;rintro e o ⟨rfl,l⟩;rw[show wrV ⟨0,⟨#[]⟩,false⟩=.agg #[.int .i64 0,.string ⟨#[]⟩,.bool false]from rfl,show (none:Option Wr).isSome=false from rfl];have M:=(qad own (λk e=>l.block k (own.lt k e).2)).alloc (.cells #[.int .i64 0,.string ⟨#[]⟩,.bool false] 100);have N:=boxed (qab hb l) (.cells #[.int .i64 0,.string ⟨#[]⟩,.bool false] 100);clear g own hb l
    go_wp2_with fail
    go_roundw
    case rel=>exact⟨k+1,z+1,by omega,by have:=q.out;omega,by go_num,by rw[C.out];exact M,N⟩
    case measure=>simp[intOf];have:=q.out;omega
   |some x=>
    obtain⟨a,c,d⟩:=x
    have n:qeg s.ws (k:Int)=⟨a,c,d⟩:=by unfold qeg;rw[ho];rfl
    have C:Hid (qed s.ws (k+1)=qed s.ws k++[⟨a,c,d⟩]):=by show _=_;rw[r.out,ho]
    rw[ho,n]at g;rw[<-m]at g;clear m ho n r
    go_wp2_with fail
    refine g.mono ?_;rintro e o ⟨rfl,l⟩;rw[show wrV ⟨a,c,d⟩=.agg #[.int .i64 a,.string c,.bool d]from rfl,show (some (⟨a,c,d⟩:Wr)).isSome=true from rfl];have y:=(qad own (λk e=>l.block k (own.lt k e).2)).alloc (.cells #[.int .i64 a,.string c,.bool d] 100);have p:=qag.new (w:=o) (T:=100) [.int .i64 a,.string c,.bool d] rfl;change qag (o.alloc (.cells #[.int .i64 a,.string c,.bool d] 100)) o.heap.size [.int .i64 a,.string c,.bool d]at p;have B:=boxed (qab hb l) (.cells #[.int .i64 a,.string c,.bool d] 100);obtain⟨W1,E⟩:∃W1,o.alloc (.cells #[.int .i64 a,.string c,.bool d] 100)=W1:=⟨_,rfl⟩;rw[E]at y p B;have y0:=p.cell 0 _ rfl;have y1:=p.cell 1 _ rfl;have y2:=p.cell 2 _ rfl;clear g own hb l;obtain⟨O,P,rfl,D⟩:=qdn y;have hcl:=D.len;have hcc:=D.cap;clear D
    go_wp2_with (first|(rw[E])|(at_builtin;refine wpList_append_lies _ rfl (.tmp 17) (.tmp 19) 88 rfl w.heap.size 100 i0 (.agg #[.int .i64 0,.string ⟨#[]⟩,.bool false]) 3 32 Tryz.underlying88 hi H I J rfl (by decide) (.slice O (qed s.ws k).length P) (qed s.ws k).length (qhp (qed s.ws k)) rfl (y.alloc _) ⟨W1.heap.size,0,none⟩ 1 1 (wrC ⟨a,c,d⟩) rfl rfl (World.news_of_block (heap_alloc_new W1 (.cells #[.int .i64 a,.string c,.bool d] 100))) (by intro u F;simp[wrC]at F;rcases F with rfl|rfl|rfl<;>rfl) (by decide) (by simp only[maxLen];omega) (by omega) (by have:=B.size;simp;omega) _ rfl ?_;intro g9 cap9 Q R S egE ltE))
    have U:Below w.heap.size w Q:=(boxed B (.cells #[.int .i64 a,.string c,.bool d] 100)).grown S (by have:=B.size;simp;omega) (λj V=>by have:=(y.lt _ V).1;omega)
    go_roundw
    case rel=>exact⟨k+1,z+1,by omega,by have:=q.out;omega,by go_num,by rw[C.out,qlr,List.length_append];exact R,U⟩
    case measure=>simp[intOf];have:=q.out;omega
  ·have L:¬z<8:=by omega
   have W:k=8:=by omega
   subst W
   go_wp2_with fail
   go_ret;exact⟨_,rfl,own,hb⟩
end
section
open Go.RowKit
theorem qeu (x c:Int) (w:World):
 Calls Tryz.prog 180 #[.agg #[.int .i64 x,.int .i64 c]] w λe w'=>e=.returned (.bool (qal x&&qal c))/\Below w.heap.size w w':=by
 by_cases h:qal x=true
 ·rw[h];go_enter Tryz.func180,Tryz.ntmps180
  go_wp2_with (go_at_call 28;refine(qef _ _).mono ?_;rintro e w' ⟨rfl,rfl⟩)
  go_ret;exact⟨by simp,boxed (Below.refl _ _) _⟩
 ·have a:qal x=false:=by simpa using h
  rw[a];go_enter Tryz.func180,Tryz.ntmps180
  go_wp2_with (go_at_call 28;refine(qef _ _).mono ?_;rintro e w' ⟨rfl,rfl⟩)
  go_ret;exact⟨by simp,boxed (Below.refl _ _) _⟩
theorem qbf {x c:Int} {v:Bool} (h:(qal x&&qal c)=v) (w:World):
 Calls Tryz.prog 180 #[.agg #[.int .i64 x,.int .i64 c]] w λe w'=>e=.returned (.bool v)/\Below w.heap.size w w':=by
 subst h;exact qeu x c w
end
section
open Tryz Go.Value Go.IntKind Go.RowKit
theorem qo3 (a0 a1 a2 a3:Int) (w:World):
 Calls prog 178 #[.agg #[int i64 a0,int i64 a1,int i64 a2,int i64 a3]] w λe w'=>e=.returned (.bool (qay a0 a1 a2 a3))/\Below w.heap.size w w':=by
 have i0:∀w,(Instr.index 77 (.agg #[int i64 a0,int i64 a1,int i64 a2,int i64 a3]) (int i64 0)).run prog w=.ok (int i64 a0) w:=λ_=>by kernel_rfl
 have h:∀w,(Instr.index 77 (.agg #[int i64 a0,int i64 a1,int i64 a2,int i64 a3]) (int i64 1)).run prog w=.ok (int i64 a1) w:=λ_=>by kernel_rfl
 have i2:∀w,(Instr.index 77 (.agg #[int i64 a0,int i64 a1,int i64 a2,int i64 a3]) (int i64 2)).run prog w=.ok (int i64 a2) w:=λ_=>by kernel_rfl
 have i3:∀w,(Instr.index 77 (.agg #[int i64 a0,int i64 a1,int i64 a2,int i64 a3]) (int i64 3)).run prog w=.ok (int i64 a3) w:=λ_=>by kernel_rfl
 by_cases b:qal a0=false
 ·have e:qay a0 a1 a2 a3=false:=by simp[qay,b]
  rw[e];clear e;go_enter func178,ntmps178
  go_wp2
  refine wp_loop_rounds 5 ?_;rw[rounds_succ]
  go_wp2_with (go_at_call 28;refine(qef _ _).mono ?_;rintro e a ⟨rfl,rfl⟩)
  go_ret;exact⟨rfl,by repeat (first|exact Below.refl _ _|apply qar|apply boxed)⟩
 have b:qal a0=true:=by simpa using b
 by_cases c:qal a1=false
 ·have e:qay a0 a1 a2 a3=false:=by simp[qay,c]
  rw[e];clear e;go_enter func178,ntmps178
  go_wp2
  refine wp_loop_rounds 5 ?_;rw[rounds_succ]
  go_wp2_with (go_at_call 28;refine(qef _ _).mono ?_;rintro e a ⟨rfl,rfl⟩)
  rw[rounds_succ]
  go_wp2_with (go_at_call 28;refine(qef _ _).mono ?_;rintro e a ⟨rfl,rfl⟩)
  go_ret;exact⟨rfl,by repeat (first|exact Below.refl _ _|apply qar|apply boxed)⟩
 have c:qal a1=true:=by simpa using c
 by_cases d:qal a2=false
 ·have e:qay a0 a1 a2 a3=false:=by simp[qay,d]
  rw[e];clear e;go_enter func178,ntmps178
  go_wp2
  refine wp_loop_rounds 5 ?_;rw[rounds_succ]
  go_wp2_with (go_at_call 28;refine(qef _ _).mono ?_;rintro e a ⟨rfl,rfl⟩)
  rw[rounds_succ]
  go_wp2_with (go_at_call 28;refine(qef _ _).mono ?_;rintro e a ⟨rfl,rfl⟩)
  rw[rounds_succ]
  go_wp2_with (go_at_call 28;refine(qef _ _).mono ?_;rintro e a ⟨rfl,rfl⟩)
  go_ret;exact⟨rfl,by repeat (first|exact Below.refl _ _|apply qar|apply boxed)⟩
 have d:qal a2=true:=by simpa using d
 by_cases g:qal a3=false
 ·have e:qay a0 a1 a2 a3=false:=by simp[qay,g]
  rw[e];clear e;go_enter func178,ntmps178
  go_wp2
  refine wp_loop_rounds 5 ?_;rw[rounds_succ]
  go_wp2_with (go_at_call 28;refine(qef _ _).mono ?_;rintro e a ⟨rfl,rfl⟩)
  rw[rounds_succ]
  go_wp2_with (go_at_call 28;refine(qef _ _).mono ?_;rintro e a ⟨rfl,rfl⟩)
  rw[rounds_succ]
  go_wp2_with (go_at_call 28;refine(qef _ _).mono ?_;rintro e a ⟨rfl,rfl⟩)
  rw[rounds_succ]
  go_wp2_with (go_at_call 28;refine(qef _ _).mono ?_;rintro e a ⟨rfl,rfl⟩)
  go_ret;exact⟨rfl,by repeat (first|exact Below.refl _ _|apply qar|apply boxed)⟩
 have g:qal a3=true:=by simpa using g
 have e:qay a0 a1 a2 a3=true:=by simp[qay,b,c,d,g]
 rw[e];clear e;go_enter func178,ntmps178
 go_wp2
 refine wp_loop_rounds 5 ?_;rw[rounds_succ]
 go_wp2_with (go_at_call 28;refine(qef _ _).mono ?_;rintro e a ⟨rfl,rfl⟩)
 rw[rounds_succ]
 go_wp2_with (go_at_call 28;refine(qef _ _).mono ?_;rintro e a ⟨rfl,rfl⟩)
 rw[rounds_succ]
 go_wp2_with (go_at_call 28;refine(qef _ _).mono ?_;rintro e a ⟨rfl,rfl⟩)
 rw[rounds_succ]
 go_wp2_with (go_at_call 28;refine(qef _ _).mono ?_;rintro e a ⟨rfl,rfl⟩)
 rw[rounds_succ]
 go_wp2
 go_ret;exact⟨rfl,by repeat (first|exact Below.refl _ _|apply qar|apply boxed)⟩
theorem qat {a0 a1 a2 a3:Int} {v:Bool} (h:qay a0 a1 a2 a3=v) (w:World):
 Calls prog 178 #[.agg #[int i64 a0,int i64 a1,int i64 a2,int i64 a3]] w λe w'=>e=.returned (.bool v)/\Below w.heap.size w w':=by
 subst h;exact qo3 a0 a1 a2 a3 w
end
section
open Go.RowKit
def qc8 (n:Nat):Code->Option Code
 |.region id ops d=>if id=n then some (.region id ops d)else none
 |.seq x y=>match qc8 n x with
  |some c=>some c
  |none=>qc8 n y
 |.block _ c=>qc8 n c
 |.loop c=>qc8 n c
 |.cond _ x y=>match qc8 n x with
  |some c=>some c
  |none=>qc8 n y
 |_=>none
def qi5 (n:Nat):Code->Bool
 |.region id _ _=>Nat.beq id n
 |.seq x _=>qi5 n x
 |.block _ c=>qi5 n c
 |.loop c=>qi5 n c
 |_=>false
def qg7 (n:Nat):Code->Option Code
 |.loop c=>match qi5 n c with
  |true=>some (.loop c)
  |false=>qg7 n c
 |.seq x y=>match qg7 n x with
  |some c=>some c
  |none=>qg7 n y
 |.block _ c=>qg7 n c
 |.cond _ x y=>match qg7 n x with
  |some c=>some c
  |none=>qg7 n y
 |_=>none
def qg8 (n:Nat):Code->Option Code
 |.seq x y=>match qi5 n x with
  |true=>some (.seq x y)
  |false=>match qg8 n x with
   |some c=>some c
   |none=>qg8 n y
 |.block _ c=>qg8 n c
 |.cond _ x y=>match qg8 n x with
  |some c=>some c
  |none=>qg8 n y
 |_=>none
variable {P:Program} {c:Code} {Q:Exit->Act->World->Prop} {a:Act} {w:World}
theorem q30 {x:Exit} (h:c.wp P (λe a w=>e=x/\Q x a w) a w):c.wp P Q a w:=
 wp_mono h (λe a w h=>by obtain⟨b,d⟩:=h;rw[b];exact d)
theorem qmv {K:Act->World->Prop} (h:c.wp P (Exit.then K (λ_ _ _=>False)) a w):c.wp P (Exit.then K Q) a w:=
 wp_mono h (λe a w h=>by cases e<;>first|exact h|exact False.elim h)
end
section
open Go.RowKit
section
variable {w w2 w3 wE:World} {b g cap p q:Nat} {M:WoM} {W:WoS} {Gs:Nat->Nat->Prop}
theorem qci.snoc {n:Nat} {ps ps':Nat->qnm} {X X' G:Nat->Prop} {w w':World} (h:qci w n ps Gs X n NoY) (y:∀j k,j<n->Gs j k->w'.heap[k]?=w.heap[k]?) (hs:w.heap.size<=w'.heap.size) (z:(ps' n).is w' G) (u:∀k,G k->w.heap.size<=k) (A:∀i,i<n->ps' i=ps i) (s:∀k,X' k->(X k\/w.heap.size<=k)/\k<w'.heap.size/\¬G k):qci w' (n+1) ps' (λj=>if j=n then G else Gs j) X' (n+1) NoY:=by
 refine⟨λj B=>?_,λa c k D E v l d=>?_,λk e=>⟨(s k e).2.1,λj B m=>?_⟩,λk e=>e.elim⟩
 ·by_cases e:j=n
  ·rw[if_pos e,e];exact z
  ·have f:j<n:=by omega
   rw[if_neg e,A j f];exact(ps j).kept _ _ _ (h.is j f) (λk C=>y j k f C) hs
 ·by_cases t:a=n
  ·rw[if_pos t]at l;have o:c≠n:=λe=>v (t.trans e.symm);rw[if_neg o]at d;have:=(ps c).lt _ _ (h.is c (by omega)) k d;have:=u k l;omega
  ·rw[if_neg t]at l;by_cases o:c=n
   ·rw[if_pos o]at d;have:=(ps a).lt _ _ (h.is a (by omega)) k l;have:=u k d;omega
   ·rw[if_neg o]at d;exact h.apart a c k (by omega) (by omega) v l d
 ·by_cases x:j=n
  ·rw[if_pos x]at m;exact(s k e).2.2 m
  ·rw[if_neg x]at m
   have f:j<n:=by omega
   rcases(s k e).1 with r|r
   ·exact(h.free k r).2 j f m
   ·have:=(ps j).lt _ _ (h.is j f) k m;omega
theorem qoj (bp:Nat->Nat) (x:Nat->Int) (n p:Nat) (y:Int) (a:x n=y):qc2 (λj=>if j=n then p else bp j) x (n+1)=qc2 bp x n++[.pointer (some ⟨p,0,none⟩),.int .i64 y]:=by
 unfold qc2;rw[List.range_succ,List.flatMap_append]
 congr 1
 ·rw[List.flatMap_def,List.flatMap_def]
  congr 1
  refine List.map_congr_left (λj c=>?_);have:=List.mem_range.1 c;show q42 (if j=n then p else bp j) (x j)=_;rw[if_neg (by omega)]
 ·simp[q42,a]
theorem PWo.addSite (h:PWo w b M W Gs) (C:W.c=0) (v:PS w2 p (λk=>k=p\/k=q) (W.S W.n)) (K:w.heap.size<=p) (L:w.heap.size<=q) (F:W.wall W.n=0) (y:Below w.heap.size w w2) (m:Below w2.heap.size w2 w3)
 (own:wE.ownsRow 0 167 2 (.slice (some ⟨g,0,none⟩) (W.n+1) cap) (W.n+1) (qc2 M.bp W.wall W.n++[.pointer (some ⟨p,0,none⟩),.int .i64 0])) (gr:w3.grownBy wE M.pv.ownBlock) (D:M.pv.ownBlock=some g\/g=w3.heap.size) (N:g<wE.heap.size):
 PWo (wE.setCell ⟨b,0,none⟩ (.slice (some ⟨g,0,none⟩) (W.n+1) cap)) b {M with pv:=.slice (some ⟨g,0,none⟩) (W.n+1) cap,bp:=λj=>if j=W.n then p else M.bp j} {W with n:=W.n+1} (λj=>if j=W.n then (λk=>k=p\/k=q)else Gs j):=by
 have s2:=y.size;have s3:=m.size;have O:=gr.size;have P:=v.lt p (.inl rfl);have Q:=v.lt q (.inr rfl);have R:=h.box.lt;have f:(Value.slice (some ⟨g,0,none⟩) (W.n+1) cap).ownBlock=some g:=rfl
 have i:(wE.setCell ⟨b,0,none⟩ (.slice (some ⟨g,0,none⟩) (W.n+1) cap)).heap.size=wE.heap.size:=by simp[World.setCell]
 have E:g≠b:=by
  rcases D with e|e
  ·exact λr=>h.sb.1 (by rw[e,r])
  ·omega
 have G:∀k,k<w.heap.size->M.pv.ownBlock≠some k->wE.heap[k]?=w.heap[k]?:=λk z A=>(gr.block k (by omega) (λe=>A e.symm)).trans ((m.block k (by omega)).trans (y.block k z));have o:∀k,k<w.heap.size->M.pv.ownBlock≠some k->k≠b->(wE.setCell ⟨b,0,none⟩ (.slice (some ⟨g,0,none⟩) (W.n+1) cap)).heap[k]?=w.heap[k]?:=λk z A H=>(Below.heap_setCell _ _ _ _ (λe=>H e)).trans (G k z A);have I:∀k,M.pv.ownBlock=some k->k<w.heap.size:=λk e=>(h.pr.lt k e).2
 have B:∀k,g=k->(M.pv.ownBlock=some k\/w2.heap.size<=k):=λk e=>by
  rcases D with r|r
  ·exact .inl (by rw[r,e])
  ·exact .inr (by omega)
 have fam:=h.fam;rw[C,Nat.add_zero]at fam;refine⟨?_,?_,?_,?_,h.nl,λx a=>?_,?_,⟨λe=>E (by rw[f]at e;injection e),h.sb.2⟩,λk=>⟨λe=>?_,(h.sr k).2⟩,λx a=>?_⟩
 ·have J:=(((h.box.later y).later m)).grown gr (λe=>h.sb.1 e.symm);exact J.set 0 _ (by simp)
 ·show World.ownsRow _ 0 _ 2 _ (W.n+1) (qc2 _ W.wall (W.n+1));rw[qoj M.bp W.wall W.n p 0 F];exact qad own (λk e=>Below.heap_setCell _ _ _ _ (λr=>E (by rw[f]at e;injection e with e;exact e.trans r)))
 ·exact qad h.cr (λk e=>o k (h.cr.lt k e).2 (λd=>((h.sr k).1 d).1 e) (λr=>h.sb.2.1 (by rw[e,r])))
 ·exact qad h.nr (λk e=>o k (h.nr.lt k e).2 (λd=>((h.sr k).1 d).2 e) (λr=>h.sb.2.2 (by rw[e,r])))
 ·have s:=h.sg x a;exact(h.gr x a).kept (o _ (h.gr x a).own.lt s.2.1 s.1) (by rw[i];omega)
 ·show qci _ (W.n+1+W.c) _ _ _ (W.n+1+W.c) NoY;rw[C,Nat.add_zero];refine fam.snoc (λj k u e=>o k (h.ltG (by omega) e) (λr=>(fam.free k (.inr (.inl r))).2 j u e) (λr=>(fam.free k (.inl r)).2 j u e)) (by rw[i];omega) ?_ (λk e=>by rcases e with e|e<;>omega) (λj u=>?_) (λk e=>?_)
  ·show (if W.n<W.n+1 then qi8 (if W.n=W.n then p else M.bp W.n) (W.S W.n)else _).is _ _;rw[if_pos (by omega),if_pos rfl];exact v.kept (λk e=>(Below.heap_setCell _ _ _ _ (λr=>by rcases e with e|e<;>(have:k=b:=r;omega))).trans ((gr.block k (by rcases e with e|e<;>omega) (λr=>by have:=I k r.symm;rcases e with e|e<;>omega)).trans (m.block k (by rcases e with e|e<;>omega)))) (by rw[i];omega)
  ·show (if j<W.n+1 then qi8 (if j=W.n then p else M.bp j) (W.S j)else _)=(if j<W.n then _ else _);rw[if_pos (by omega),if_pos u,if_neg (by omega)]
  ·have l:qiu b M k->(qiu b M k\/w.heap.size<=k)/\k<(wE.setCell ⟨b,0,none⟩ (.slice (some ⟨g,0,none⟩) (W.n+1) cap)).heap.size/\¬(k=p\/k=q):=λe=>by
        have:=h.ltF k e;exact⟨.inl e,by rw[i];omega,by omega⟩
   rcases e with e|e|e|e|⟨x,a,e⟩
   ·exact l (.inl e)
   ·rw[f]at e;injection e with e;rcases B k e with r|r
    ·exact l (.inr (.inl r))
    ·exact⟨.inr (by omega),by rw[i];omega,by omega⟩
   ·exact l (.inr (.inr (.inl e)))
   ·exact l (.inr (.inr (.inr (.inl e))))
   ·exact l (.inr (.inr (.inr (.inr ⟨x,a,e⟩))))
 ·rw[f]at e;injection e with e;rcases B k e with r|r
  ·exact(h.sr k).1 r
  ·exact⟨λd=>by have:=(h.cr.lt k d).2;omega,λd=>by have:=(h.nr.lt k d).2;omega⟩
 ·have s:=h.sg x a;refine⟨s.1,λe=>?_,s.2.2⟩;rw[f]at e;injection e with e;rcases B x.blk e with r|r
  ·exact s.2.1 r
  ·have:=(h.gr x a).own.lt;omega
theorem PWo.addSes (h:PWo w b M W Gs) (B:PSe w2 p (λk=>k=p) (W.ses W.c)) (J:w.heap.size<=p) (E:W.at_ W.c=0) (y:Below w.heap.size w w2) (m:Below w2.heap.size w2 w3)
 (own:wE.ownsRow 0 171 2 (.slice (some ⟨g,0,none⟩) (W.c+1) cap) (W.c+1) (qc2 M.bs (λk=>(W.at_ k:Int)) W.c++[.pointer (some ⟨p,0,none⟩),.int .i64 0])) (gr:w3.grownBy wE M.cv.ownBlock) (C:M.cv.ownBlock=some g\/g=w3.heap.size) (K:g<wE.heap.size):
 PWo (wE.setCell ⟨b,1,none⟩ (.slice (some ⟨g,0,none⟩) (W.c+1) cap)) b {M with cv:=.slice (some ⟨g,0,none⟩) (W.c+1) cap,bs:=λj=>if j=W.c then p else M.bs j} {W with c:=W.c+1} (λj=>if j=W.n+W.c then (λk=>k=p)else Gs j):=by
 have s2:=y.size;have s3:=m.size;have L:=gr.size;have N:=B.lt p rfl;have O:=h.box.lt;have f:(Value.slice (some ⟨g,0,none⟩) (W.c+1) cap).ownBlock=some g:=rfl
 have i:(wE.setCell ⟨b,1,none⟩ (.slice (some ⟨g,0,none⟩) (W.c+1) cap)).heap.size=wE.heap.size:=by simp[World.setCell]
 have D:g≠b:=by
  rcases C with e|e
  ·exact λr=>h.sb.2.1 (by rw[e,r])
  ·omega
 have F:∀k,k<w.heap.size->M.cv.ownBlock≠some k->wE.heap[k]?=w.heap[k]?:=λk z A=>(gr.block k (by omega) (λe=>A e.symm)).trans ((m.block k (by omega)).trans (y.block k z));have o:∀k,k<w.heap.size->M.cv.ownBlock≠some k->k≠b->(wE.setCell ⟨b,1,none⟩ (.slice (some ⟨g,0,none⟩) (W.c+1) cap)).heap[k]?=w.heap[k]?:=λk z A G=>(Below.heap_setCell _ _ _ _ (λe=>G e)).trans (F k z A);have H:∀k,M.cv.ownBlock=some k->k<w.heap.size:=λk e=>(h.cr.lt k e).2
 have u:∀k,g=k->(M.cv.ownBlock=some k\/w2.heap.size<=k):=λk e=>by
  rcases C with r|r
  ·exact .inl (by rw[r,e])
  ·exact .inr (by omega)
 have fam:=h.fam;refine⟨?_,?_,?_,?_,h.nl,λx a=>?_,?_,⟨h.sb.1,λe=>D (by rw[f]at e;injection e),h.sb.2.2⟩,λk=>⟨λe=>⟨λd=>?_,((h.sr k).1 e).2⟩,λe=>?_⟩,λx a=>?_⟩
 ·have I:=(((h.box.later y).later m)).grown gr (λe=>h.sb.2.1 e.symm);exact I.set 1 _ (by simp)
 ·exact qad h.pr (λk e=>o k (h.pr.lt k e).2 ((h.sr k).1 e).1 (λr=>h.sb.1 (by rw[e,r])))
 ·show World.ownsRow _ 0 _ 2 _ (W.c+1) (qc2 _ (λk=>(W.at_ k:Int)) (W.c+1));rw[qoj M.bs (λk=>(W.at_ k:Int)) W.c p 0 (by show (W.at_ W.c:Int)=0;rw[E];rfl)];exact qad own (λk e=>Below.heap_setCell _ _ _ _ (λr=>D (by rw[f]at e;injection e with e;exact e.trans r)))
 ·exact qad h.nr (λk e=>o k (h.nr.lt k e).2 (λd=>(h.sr k).2 d e) (λr=>h.sb.2.2 (by rw[e,r])))
 ·have s:=h.sg x a;exact(h.gr x a).kept (o _ (h.gr x a).own.lt s.2.2.1 s.1) (by rw[i];omega)
 ·show qci _ (W.n+W.c+1) _ _ _ (W.n+W.c+1) NoY;refine fam.snoc (λj k v e=>o k (h.ltG v e) (λr=>(fam.free k (.inr (.inr (.inl r)))).2 j v e) (λr=>(fam.free k (.inl r)).2 j v e)) (by rw[i];omega) ?_ (λk e=>by omega) (λj v=>?_) (λk e=>?_)
  ·show (if W.n+W.c<W.n then _ else qr3 (if W.n+W.c-W.n=W.c then p else M.bs (W.n+W.c-W.n)) (W.ses (W.n+W.c-W.n))).is _ _;rw[if_neg (by omega),show W.n+W.c-W.n=W.c by omega,if_pos rfl];exact B.kept (λk e=>(Below.heap_setCell _ _ _ _ (λr=>by have:k=b:=r;omega)).trans ((gr.block k (by omega) (λr=>by have:=H k r.symm;omega)).trans (m.block k (by omega)))) (by rw[i];omega)
  ·show (if j<W.n then _ else qr3 (if j-W.n=W.c then p else M.bs (j-W.n)) (W.ses (j-W.n)))=(if j<W.n then _ else _);by_cases r:j<W.n
   ·rw[if_pos r,if_pos r]
   ·rw[if_neg r,if_neg r,if_neg (by omega)]
  ·have l:qiu b M k->(qiu b M k\/w.heap.size<=k)/\k<(wE.setCell ⟨b,1,none⟩ (.slice (some ⟨g,0,none⟩) (W.c+1) cap)).heap.size/\¬(k=p):=λe=>by
        have:=h.ltF k e;exact⟨.inl e,by rw[i];omega,by omega⟩
   rcases e with e|e|e|e|⟨x,a,e⟩
   ·exact l (.inl e)
   ·exact l (.inr (.inl e))
   ·rw[f]at e;injection e with e;rcases u k e with r|r
    ·exact l (.inr (.inr (.inl r)))
    ·exact⟨.inr (by omega),by rw[i];omega,by omega⟩
   ·exact l (.inr (.inr (.inr (.inl e))))
   ·exact l (.inr (.inr (.inr (.inr ⟨x,a,e⟩))))
 ·rw[f]at d;injection d with d;rcases u k d with r|r
  ·exact((h.sr k).1 e).1 r
  ·have:=(h.pr.lt k e).2;omega
 ·rw[f]at e;injection e with e;rcases u k e with r|r
  ·exact(h.sr k).2 r
  ·exact λd=>by have:=(h.nr.lt k d).2;omega
 ·have s:=h.sg x a;refine⟨s.1,s.2.1,λe=>?_,s.2.2.2⟩;rw[f]at e;injection e with e;rcases u x.blk e with r|r
  ·exact s.2.2.1 r
  ·have:=(h.gr x a).own.lt;omega
end
end
section
open Go.Shelf
def Tryz.lays146_ren:Go.Shelf.Ren:=⟨λ|146=>14|221=>27|268=>72|138=>73|143=>74|195=>122|197=>123|218=>124|219=>121|260=>171|217=>167|225=>168|224=>169|267=>170|266=>226|314=>227|n=>n,λ|9=>9|31=>42|3=>3|4=>4|0=>0|105=>177|21=>21|5=>5|46=>190|119=>281|139=>284|138=>283|146=>279|51=>250|n=>n,λ|1=>1|3=>4|4=>5|n=>n⟩
theorem Tryz.lays146:Go.Proofs.Lays.n146 Tryz.prog Tryz.lays146_ren:={
 mixed:=by kernel_rfl
 f138:=Tryz.func73.trans (congrArg some (by kernel_rfl))
 f143:=Tryz.func74.trans (congrArg some (by kernel_rfl))
 f146:=Tryz.func14.trans (congrArg some (by kernel_rfl))
 f195:=Tryz.func122.trans (congrArg some (by kernel_rfl))
 f197:=Tryz.func123.trans (congrArg some (by kernel_rfl))
 f217:=Tryz.func167.trans (congrArg some (by kernel_rfl))
 f218:=Tryz.func124.trans (congrArg some (by kernel_rfl))
 f219:=Tryz.func121.trans (congrArg some (by kernel_rfl))
 f221:=Tryz.func27.trans (congrArg some (by kernel_rfl))
 f224:=Tryz.func169.trans (congrArg some (by kernel_rfl))
 f225:=Tryz.func168.trans (congrArg some (by kernel_rfl))
 f260:=Tryz.func171.trans (congrArg some (by kernel_rfl))
 f266:=Tryz.func226.trans (congrArg some (by kernel_rfl))
 f267:=Tryz.func170.trans (congrArg some (by kernel_rfl))
 f268:=Tryz.func72.trans (congrArg some (by kernel_rfl))
 f314:=Tryz.func227.trans (congrArg some (by kernel_rfl))
 t0:=Tryz.underlying0
 a0:=Tryz.isAgg0
 z0:=Tryz.sizeOf0
 v0:=Tryz.zeroValue0
 t3:=Tryz.underlying3
 a3:=Tryz.isAgg3
 z3:=Tryz.sizeOf3
 v3:=Tryz.zeroValue3
 t4:=Tryz.underlying4
 a4:=Tryz.isAgg4
 z4:=Tryz.sizeOf4
 v4:=Tryz.zeroValue4
 t5:=Tryz.underlying5
 a5:=Tryz.isAgg5
 z5:=Tryz.sizeOf5
 v5:=Tryz.zeroValue5
 t9:=Tryz.underlying9
 a9:=Tryz.isAgg9
 z9:=Tryz.sizeOf9
 v9:=Tryz.zeroValue9
 t21:=Tryz.underlying21
 a21:=Tryz.isAgg21
 z21:=Tryz.sizeOf21
 v21:=Tryz.zeroValue21
 t31:=Tryz.underlying42
 a31:=Tryz.isAgg42
 z31:=Tryz.sizeOf42
 v31:=Tryz.zeroValue42
 t46:=Tryz.underlying190
 a46:=Tryz.isAgg190
 z46:=Tryz.sizeOf190
 v46:=Tryz.zeroValue190
 t51:=Tryz.underlying250
 a51:=Tryz.isAgg250
 z51:=Tryz.sizeOf250
 v51:=Tryz.zeroValue250
 t105:=Tryz.underlying177
 a105:=Tryz.isAgg177
 z105:=Tryz.sizeOf177
 v105:=Tryz.zeroValue177
 t119:=Tryz.underlying281
 a119:=Tryz.isAgg281
 z119:=Tryz.sizeOf281
 t138:=Tryz.underlying283
 a138:=Tryz.isAgg283
 z138:=Tryz.sizeOf283
 v138:=Tryz.zeroValue283
 t139:=Tryz.underlying284
 a139:=Tryz.isAgg284
 z139:=Tryz.sizeOf284
 v139:=Tryz.zeroValue284
 t146:=Tryz.underlying279
 a146:=Tryz.isAgg279
 z146:=Tryz.sizeOf279
 v146:=Tryz.zeroValue279
 g1:=by kernel_rfl
 g3:=by kernel_rfl
 g4:=by kernel_rfl}
open Go.RowKit Go.Lib in
theorem Tryz.strings_Split (s a:ByteArray) (m:Int) (w:World) (hs:s.size<4294967281) (b:w.cell? ⟨1,0,none⟩=some (.int .i64 m)) (c:1<=a.size):
 Calls Tryz.prog 14 #[.string s,.string a] w λe w'=>
  e=.returned (.slice (some ⟨w.heap.size,0,none⟩) (Lib.countB s a+1) (Lib.countB s a+1))/\w'=w.alloc (.cells ((Lib.splitB a 0 (Lib.countB s a) s).map Value.string).toArray 9):=Any.strings_Split Tryz.lays146 (by kernel_rfl) s a m w hs b c
end
open Go.RowKit
def q9q {α:Type} (F:Fence) (n:Nat) (P:Program) (gf:Nat) (lb:Array Value) (encs:α->Array Value) (xs:List α) (N:World->Prop) (w0:World):Prop:=
 ∀(l:Nat) (J:List α->World->Prop) (W:World),Below w0.heap.size w0 W->(∀s A,J s A->N A)->(∀s A B,J s A->Below A.heap.size A B->J s B)->
  (∀pre x rest W,J pre W->xs=pre++x::rest->YieldAt F (n-1) P l (encs x) W λe W'=>e=.returned (.bool true)/\J (pre++[x]) W')->J [] W->
  CallsIn F n P gf (#[.func (.yield l) #[] #[]]++lb) W λe W'=>(∃v,e=.returned v)/\J xs W'
structure q8q (B:Nat) (W W':World):Prop where
 a:W'.heap[B]?=W.heap[B]?
 b:W'.heap[B+1]?=W.heap[B+1]?
def q95 {α:Type} (B:Nat) (I:List α->World->Prop) (xs:List α) (W:World):Exit->Act->World->Prop
 |.normal,_,W'=>q8q B W W'/\I xs W'
 |_,_,_=>False
theorem qlu {F:Fence} {n:Nat} {P:Program} {α:Type} {g:Operand} {ps:Array Tmp} {m body:Code} {Q:Exit->Act->World->Prop} {a:Act} {w:World}
 (O:F.round=none) (R:1<=n) {gf:Nat} {lb:Array Value} (S:a.eval g=.func (.func gf) #[] lb) (T:F.fn gf) (U:∀args w,(callFunc gf args).run P w=.ok (.enter gf args) w)
 {q:α->Array Value} {xs:List α} {N:World->Prop} {w0:World} (V:q9q F (n-1) P gf lb q xs N w0) (z:Below w0.heap.size w0 w) (X:∀x,(q x).size=ps.size)
 (I:List α->World->Prop) (Y:∀s A,I s A->N A) (C:∀s A B,I s A->Below A.heap.size A B->I s B) (u:∀s A o,I s A->I s (A.putObj (w.heap.size+1) o)) (Z:I [] w) (D:α->Act)
 (aa:∀(l:Nat) (x:α) (W:World) (K:Act->World->Prop),K (D x) W->
   m.wpIn (F.inRound l) (n-1-1) P (Exit.then K (λ_ _ _=>False)) {tmps:=(ps.zip (q x)).foldl (λt (p,v)=>t.setIfInBounds p v) a.tmps,defers:=[]} W)
 (ab:∀(l:Nat) (f:List α) (x:α) (rest:List α) (W:World),xs=f++x::rest->w.heap.size+2<=W.heap.size->I f W->body.wpIn (F.inRound l) (n-1-1) P (q95 w.heap.size I (f++[x]) W) (D x) W)
 (ac:∀(W:World),I xs W->W.heap[w.heap.size]?=some (.deferred (some []))->Q .normal {a with defers:={target:=.collected w.heap.size,args:=#[]}::a.defers} W):
 (Code.rangeFunc g ps m body).wpIn F n P Q a w:=by
 refine wpIn_rangeFunc ?_;intro fn ad;rw[O];obtain⟨c,d⟩:∃c:LoopState->Option Code->Loop,c=λst pe=>{state:=st,pending:=pe,fn,tmps:=a.tmps,params:=ps,m,body,defers:=w.heap.size}:=⟨_,rfl⟩;obtain⟨W1,r⟩:∃W1,(w.alloc (.deferred (some []))).alloc (.loop (c .ready none))=W1:=⟨_,rfl⟩
 have hL1:W1.heap[w.heap.size+1]?=some (.loop (c .ready none)):=by
  rw[<-r];have:=World.alloc_heap_new (w.alloc (.deferred (some []))) (.loop (c .ready none));rwa [World.size_alloc]at this
 have hK1:W1.heap[w.heap.size]?=some (.deferred (some [])):=by
  rw[<-r];exact(Below.heap_alloc _ _ _ (by simp)).trans (World.alloc_heap_new w _)
 have E:Below w.heap.size w W1:=by rw[<-r];exact((Below.refl _ w).alloc (Nat.le_refl _) _).alloc (by simp) _
 have hI1:I [] W1:=C _ _ _ Z E;have hb1:Below w0.heap.size w0 W1:=z.trans (E.mono z.size)
 refine⟨w.heap.size+1,[{target:=.collected w.heap.size,args:=#[]}],W1,{target:=.fn (.func gf) lb,args:=#[.func (.yield (w.heap.size+1)) #[] #[]]},W1,gf,
  #[.func (.yield (w.heap.size+1)) #[] #[]]++lb,W1,?_,?_,?_,?_,λ_=>R,?_⟩
 ·rw[<-r,d];exact run_enterLoop_outer _ _ _ _ _
 ·simp only[resolve,S];simp[go_sem]
 ·intro f' G;simp[Target.leads]at G;subst G;exact T
 ·simp[invoke,go_sem,U]
 ·have blk:∀{A B:World} {k:Nat} {o:Obj},Below A.heap.size A B->A.heap[k]?=some o->B.heap[k]?=some o:=λhb h=>(hb.block _ (Array.getElem?_eq_some_iff.1 h).1).trans h
  refine(V (w.heap.size+1)
   (λf W=>I f W/\W.heap[w.heap.size+1]?=some (.loop (c .ready none))/\W.heap[w.heap.size]?=some (.deferred (some [])))
   W1 hb1 (λs A hs=>Y s A hs.1) (λs A B hs hb=>⟨C s A B hs.1 hb,blk hb hs.2.1,blk hb hs.2.2⟩) ?_ ⟨hI1,hL1,hK1⟩).mono ?_
  ·rintro f x rest W ⟨hi,j,y⟩ hx;have hlt:w.heap.size+1<W.heap.size:=(Array.getElem?_eq_some_iff.1 j).1;have H:=run_yield (P:=P) (args:=q x) j (by rw[d];exact X x);rw[d]at H;refine⟨fn,_,m,body,H,roundIn_of_wpIn ad (aa _ x W _ ⟨_,run_beginRound j (by rw[d]),?_⟩)⟩;have hl2:(W.putObj (w.heap.size+1) (.loop {c .ready none with state:=.busy})).heap[w.heap.size+1]?=some (.loop {c .ready none with state:=.busy}):=World.putObj_heap_same hlt;have hk2:(W.putObj (w.heap.size+1) (.loop {c .ready none with state:=.busy})).heap[w.heap.size]?=some (.deferred (some [])):=(World.putObj_heap_other (by omega)).trans y;refine wpIn_mono (ab _ f x rest _ hx (by simp;omega) (u _ _ _ hi)) ?_;rintro e a3 W3 i;cases e with
   |normal=>
    obtain⟨J,hi3⟩:=i;have L:=J.b.trans hl2;have M:=run_endRound (P:=P) none L;rw[d]at M;exact⟨_,_,M,rfl,u _ _ _ hi3,by rw[d];exact World.putObj_heap_same (Array.getElem?_eq_some_iff.1 L).1,(World.putObj_heap_other (by omega)).trans (J.a.trans hk2)⟩
   |ret=>exact i.elim
   |exit id=>exact i.elim
   |goto t=>exact i.elim
   |panic ch=>exact i.elim
   |outgrown=>exact i.elim
  ·rintro e W2 ⟨⟨v,rfl⟩,hi,j,y⟩;exact⟨none,_,by have:=run_endLoop (P:=P) j (by rw[d];simp);rw[d]at this;exact this,ac _ (u _ _ _ hi) ((World.putObj_heap_other (by omega)).trans y)⟩
end Go.Proofs.YtoanjdndmlffdaaGreatDoor
