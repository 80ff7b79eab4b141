import Derived.Test.YtemiamjnhoeniaaGreatDoorSiteF
set_option maxHeartbeats 8000000
set_option maxRecDepth 100000
namespace Go.Proofs.YtemiamjnhoeniaaGreatDoor
open Go.RowKit
theorem qmb (b s cap:Nat) (l:List Wr) (w:World) (H:qcy w b s l) (M:l.length<=cap) (N:cap<=9223372036854775807):
 Calls Tryz.prog 130 #[.slice (some ⟨b,s,none⟩) l.length cap] w λe w'=>e=.returned (.bool (qd7 l))/\Below w.heap.size w w':=by
 have O:=Later.one;go_enter Tryz.func130,Tryz.ntmps130
 go_wp2
 go_loopw [7] (λi wr=>∃(k:Nat) (z:Int),k<=l.length/\z=k/\i=.int .i64 z/\(∀j,j<k->qhk l j=true)/\Below w.heap.size w wr/\qcy wr b s l) (λi _=>l.length-(intOf i).toNat)
 case atStart=>exact⟨0,0,by omega,rfl,rfl,λj I=>by omega,Below.refl _ _,H⟩
 case round=>
  obtain⟨k,z,P,v,rfl,y,hb,C⟩:=hrel;have p:Hid _:=y;clear y;by_cases m:k<l.length
  ·obtain⟨x0,x1,x2⟩:=C k m
   have Q:z<(l.length:Int):=by omega
   have R:z.toNat=k:=by omega
   have S:0<=z:=by omega
   have o:Hid _:=v;clear v;obtain⟨⟨key,data,gone⟩,u⟩:∃x,qff l k=x:=⟨_,rfl⟩;rw[u]at x0 x1 x2;have J:Hid _:=u;clear u;simp only at x0 x1 x2;have d:=boxed hb (.cells #[.int .i64 key,.string data,.bool gone] 34);have q:=C.later (boxed (Below.refl _ wr) (.cells #[.int .i64 key,.string data,.bool gone] 34))
   have B:(wr.alloc (.cells #[.int .i64 key,.string data,.bool gone] 34)).cell? ⟨wr.heap.size,0,none⟩=some (.int .i64 key):=by go_simp
   have D:(wr.alloc (.cells #[.int .i64 key,.string data,.bool gone] 34)).cell? ⟨wr.heap.size,1,none⟩=some (.string data):=by go_simp
   have E:(wr.alloc (.cells #[.int .i64 key,.string data,.bool gone] 34)).cell? ⟨wr.heap.size,2,none⟩=some (.bool gone):=by go_simp
   have ok:=qmf J.out;replace B:=Later.cell B;replace D:=Later.cell D;replace E:=Later.cell E;cases p1:inB key 0 7
   ·skip
    have c:Hid (qhk l k=false):=by rw[ok];exact qs5 p1
    clear ok
    go_wp2_with fail
    clear x0 x1 x2;refine qaa (by kernel_rfl) (by kernel_rfl) ?_
    repeat (go_big_quiet_step ((go_at_call 30;with_reducible exact qab (qa1 p1 _))))
    refine wpQuiet_nil ?_;rintro g ⟨⟨_,a⟩,rfl⟩
    go_wp2
    go_ret;exact⟨by rw[qet m c.out];rfl,qac d a⟩
   ·by_cases F:k=0
    ·have K:decide (0<z)=false:=decide_eq_false (by have:=o.out;omega);have G:Hid _:=F;clear F;by_cases h:12<(data.size:Int)
     ·skip
      have c:Hid (qhk l k=false):=by rw[ok];exact qs8 h
      clear ok
      go_wp2_with fail
      clear x0 x1 x2;refine qaa (by kernel_rfl) (by kernel_rfl) ?_
      repeat (go_big_quiet_step ((go_at_call 30;with_reducible exact qab (qa1 p1 _))))
      refine wpQuiet_nil ?_;rintro g ⟨⟨_,a⟩,rfl⟩
      go_wp2
      go_ret;exact⟨by rw[qet m c.out];rfl,qac d a⟩
     ·have L:decide (12<(data.size:Int))=false:=decide_eq_false h;cases gone
      ·skip
       have n:Hid (qhk l k=true):=by rw[ok];exact qie p1 (.inl G.out) h (.inl rfl)
       clear ok
       go_wp2_with fail
       clear x0 x1 x2;refine qaa (by kernel_rfl) (by kernel_rfl) ?_
       repeat (go_big_quiet_step ((go_at_call 30;with_reducible exact qab (qa1 p1 _))))
       refine wpQuiet_nil ?_;rintro g ⟨⟨_,a⟩,rfl⟩
       go_wp2
       go_roundw
       case rel=>exact⟨k+1,z+1,by omega,by have:=o.out;omega,by go_num,qmq p.out n.out,qac d a,q.later a⟩
       case measure=>simp[intOf];omega
      ·cases he:data.toList.isEmpty
       ·skip
        have c:Hid (qhk l k=false):=by rw[ok];exact qpe rfl he
        clear ok
        go_wp2_with fail
        clear x0 x1 x2;refine qaa (by kernel_rfl) (by kernel_rfl) ?_
        repeat (go_big_quiet_step ((go_at_call 30;with_reducible exact qab (qa1 p1 _))))
        refine wpQuiet_nil ?_;rintro g ⟨⟨_,a⟩,rfl⟩
        go_wp2
        go_ret;exact⟨by rw[qet m c.out];rfl,qac d a⟩
       ·skip
        have n:Hid (qhk l k=true):=by rw[ok];exact qie p1 (.inl G.out) h (.inr he)
        clear ok
        go_wp2_with fail
        clear x0 x1 x2;refine qaa (by kernel_rfl) (by kernel_rfl) ?_
        repeat (go_big_quiet_step ((go_at_call 30;with_reducible exact qab (qa1 p1 _))))
        refine wpQuiet_nil ?_;rintro g ⟨⟨_,a⟩,rfl⟩
        go_wp2
        go_roundw
        case rel=>exact⟨k+1,z+1,by omega,by have:=o.out;omega,by go_num,qmq p.out n.out,qac d a,q.later a⟩
        case measure=>simp[intOf];omega
    ·have K:0<z:=by have:=o.out;omega
     obtain⟨v0,_,_⟩:=q (k-1) (by omega)
     have T:(z-1).toNat=k-1:=by omega
     have U:0<=z-1:=by omega
     have V:z-1<(l.length:Int):=by omega
     replace v0:=Later.cell v0;by_cases r:key<=(qff l (k-1)).key
     ·skip
      have c:Hid (qhk l k=false):=by rw[ok];exact qt3 (by omega) r
      clear ok
      go_wp2_with fail
      clear x0 x1 x2;refine qaa (by kernel_rfl) (by kernel_rfl) ?_
      repeat (go_big_quiet_step ((go_at_call 30;with_reducible exact qab (qa1 p1 _))))
      refine wpQuiet_nil ?_;rintro g ⟨⟨_,a⟩,rfl⟩
      go_wp2
      go_ret;exact⟨by rw[qet m c.out];rfl,qac d a⟩
     ·have W:decide (key<=(qff l (k-1)).key)=false:=decide_eq_false r;by_cases h:12<(data.size:Int)
      ·skip
       have c:Hid (qhk l k=false):=by rw[ok];exact qs8 h
       clear ok
       go_wp2_with fail
       clear x0 x1 x2;refine qaa (by kernel_rfl) (by kernel_rfl) ?_
       repeat (go_big_quiet_step ((go_at_call 30;with_reducible exact qab (qa1 p1 _))))
       refine wpQuiet_nil ?_;rintro g ⟨⟨_,a⟩,rfl⟩
       go_wp2
       go_ret;exact⟨by rw[qet m c.out];rfl,qac d a⟩
      ·have L:decide (12<(data.size:Int))=false:=decide_eq_false h;cases gone
       ·skip
        have n:Hid (qhk l k=true):=by rw[ok];exact qie p1 (.inr r) h (.inl rfl)
        clear ok
        go_wp2_with fail
        clear x0 x1 x2;refine qaa (by kernel_rfl) (by kernel_rfl) ?_
        repeat (go_big_quiet_step ((go_at_call 30;with_reducible exact qab (qa1 p1 _))))
        refine wpQuiet_nil ?_;rintro g ⟨⟨_,a⟩,rfl⟩
        go_wp2
        go_roundw
        case rel=>exact⟨k+1,z+1,by omega,by have:=o.out;omega,by go_num,qmq p.out n.out,qac d a,q.later a⟩
        case measure=>simp[intOf];omega
       ·cases he:data.toList.isEmpty
        ·skip
         have c:Hid (qhk l k=false):=by rw[ok];exact qpe rfl he
         clear ok
         go_wp2_with fail
         clear x0 x1 x2;refine qaa (by kernel_rfl) (by kernel_rfl) ?_
         repeat (go_big_quiet_step ((go_at_call 30;with_reducible exact qab (qa1 p1 _))))
         refine wpQuiet_nil ?_;rintro g ⟨⟨_,a⟩,rfl⟩
         go_wp2
         go_ret;exact⟨by rw[qet m c.out];rfl,qac d a⟩
        ·skip
         have n:Hid (qhk l k=true):=by rw[ok];exact qie p1 (.inr r) h (.inr he)
         clear ok
         go_wp2_with fail
         clear x0 x1 x2;refine qaa (by kernel_rfl) (by kernel_rfl) ?_
         repeat (go_big_quiet_step ((go_at_call 30;with_reducible exact qab (qa1 p1 _))))
         refine wpQuiet_nil ?_;rintro g ⟨⟨_,a⟩,rfl⟩
         go_wp2
         go_roundw
         case rel=>exact⟨k+1,z+1,by omega,by have:=o.out;omega,by go_num,qmq p.out n.out,qac d a,q.later a⟩
         case measure=>simp[intOf];omega
  ·go_wp2_with (go_at_call 30;refine(qhq _ _ _ _).mono ?_;rintro e X ⟨rfl,rfl⟩)
   go_ret;exact⟨by rw[quc (λj I=>p.out j (by omega))];rfl,hb⟩
theorem qng (a:Option Addr) (cap:Nat) (w:World):
 Calls Tryz.prog 130 #[.slice a 0 cap] w λe w'=>e=.returned (.bool false)/\Below w.heap.size w w':=by
 go_enter Tryz.func130,Tryz.ntmps130
 go_wp2
 refine wp_loop_rounds 1 ?_;rw[rounds_succ]
 go_wp2_with (go_at_call 30;refine(qhq _ _ _ _).mono ?_;rintro e b ⟨rfl,rfl⟩)
 go_ret;exact⟨rfl,Below.refl _ _⟩
theorem qa0 {a:Option Addr} {cap:Nat} {l:List Wr} {w:World} (h:qat w a cap l):
 Calls Tryz.prog 130 #[.slice a l.length cap] w λe w'=>e=.returned (.bool (qd7 l))/\Below w.heap.size w w':=by
 rcases h.held with rfl|⟨b,c,rfl,d⟩
 ·exact qng a cap w
 ·exact qmb b c cap l w d h.len h.cap
section
open Go.Value Go.IntKind
theorem qls (lw lc now:Int) (w:World):
 Calls Tryz.prog 132 #[.agg #[int i64 lw,int i64 lc],int i64 now] w λe w'=>e=.returned (.tuple #[.agg #[int i64 (qeo lw lc now).1,int i64 (qeo lw lc now).2.1],int i64 (qeo lw lc now).2.2])/\Below w.heap.size w w':=by
 unfold qeo;cases h:(qai lw&&qai lc)
 ·rw[if_pos rfl];exact qm9 lw lc now w h
 ·rw[if_neg (by decide)]
  have hb:0<=lc/\lc<=1099511627776:=by
   have g:=h;simp[qai]at g;omega
  cases h2:qai now
  ·rw[if_pos rfl];exact qnh lw lc now w h h2
  ·rw[if_neg (by decide)];by_cases c:lw<now
   ·rw[if_pos c];exact qrd lw lc now w h h2 c
   ·rw[if_neg c];by_cases d:1099511627776<lc+1
    ·rw[if_pos d];exact qp6 lw lc now w h h2 c hb.1 hb.2 d
    ·rw[if_neg d];exact qoz lw lc now w h h2 c hb.1 hb.2 d
theorem qbc {a0 a1 a2 a3 c d g i:Int} {v:Bool} (h:qe3 a0 a1 a2 a3 c d g i=v) (w:World):
 Calls Tryz.prog 70 #[.agg #[int i64 a0,int i64 a1,int i64 a2,int i64 a3],.agg #[int i64 c,int i64 d,int i64 g,int i64 i]] w λe w'=>e=.returned (.bool v)/\Below w.heap.size w w':=by
 subst h;exact qjv a0 a1 a2 a3 c d g i w
variable {b:Nat} {a:Option Addr}
theorem qc1 {tmps:Array Value} {w:World} {x0 x1 x2 x3 d e g i ev:Int} {n c:Nat} (h:qag w b [int i64 x0,int i64 x1,int i64 x2,int i64 x3,int i64 d,int i64 e,int i64 g,int i64 i,.slice a n c]) (j:tmps[8]?=some (.pointer (some ⟨b,0,none⟩))) (k:tmps[9]?=some (int i64 ev)):
 (results Tryz.f107 tmps).run Tryz.prog w=.ok (.tuple #[.agg #[int i64 x0,int i64 x1,int i64 x2,int i64 x3,int i64 d,int i64 e,int i64 g,int i64 i,.slice a n c],int i64 ev]) w:=by
 obtain⟨l,m,o,p,q,r,s,t,u⟩:=h.c9;simp[results,Tryz.results107,go_sem,j,k,l,m,o,p,q,r,s,t,u]
def qq6 (w:World) (b:Nat) (lv wv sv:Value) (S:qaf) (log waits:List TxM) (now d0 d1 d2 d3:Int) (ws:List Wr) (e:Ending) (w':World):Prop:=
 (qay S log.length now d0 d1 d2 d3 ws≠0/\e=.returned (.tuple #[.agg #[int i64 0,int i64 0,int i64 0,int i64 0,int i64 0,int i64 0,int i64 0,int i64 0,.slice none 0 0],int i64 (qay S log.length now d0 d1 d2 d3 ws)])/\Below w.heap.size w w')\/
 (qay S log.length now d0 d1 d2 d3 ws=0/\∃(wa:Option Addr) (wc:Nat) (lv' sv':Value),e=.returned (.tuple #[.agg (txC ⟨qbt S now d0 d1 d2 d3 ws,wa,wc⟩).toArray,int i64 0])/\
    qc6 w' b lv' wv sv' (qbr S (qbt S now d0 d1 d2 d3 ws)) (log++[⟨qbt S now d0 d1 d2 d3 ws,wa,wc⟩]) waits/\(∀k,qap b lv' wv sv' k->qap b lv wv sv k\/w.heap.size<=k)/\qae (qap b lv wv sv) w w')
theorem qqp {lv wv sv:Value} {S:qaf} {log waits:List TxM} (now d0 d1 d2 d3:Int) {cap:Nat} {ws:List Wr} (w:World) (h:qc6 w b lv wv sv S log waits) (Q:qat w a cap ws) (ab:qay S log.length now d0 d1 d2 d3 ws≠0):
 Calls Tryz.prog 107 #[.pointer (some ⟨b,0,none⟩),int i64 now,.agg #[int i64 d0,int i64 d1,int i64 d2,int i64 d3],.slice a ws.length cap] w (qq6 w b lv wv sv S log waits now d0 d1 d2 d3 ws):=by
 obtain⟨la,lc,rfl,hT⟩:=qa6 h.rlog;have hc1:=hT.len;have hc2:=hT.cap;have g:=(qbe.new w 47 d0 d1 d2 d3).boxed (.cells #[int i64 0,int i64 0,int i64 0,int i64 0,int i64 0,int i64 0,int i64 0,int i64 0,.slice none 0 0] 80);have c:qag ((w.alloc (.cells #[int i64 d0,int i64 d1,int i64 d2,int i64 d3] 47)).alloc (.cells #[int i64 0,int i64 0,int i64 0,int i64 0,int i64 0,int i64 0,int i64 0,int i64 0,.slice none 0 0] 80)) (w.heap.size+1) txZ:=qag.new (w:=w.alloc (.cells #[int i64 d0,int i64 d1,int i64 d2,int i64 d3] 47)) (T:=80) (n:=w.heap.size+1) [int i64 0,int i64 0,int i64 0,int i64 0,int i64 0,int i64 0,int i64 0,int i64 0,.slice none 0 0] (by simp);have hb:=boxed (boxed (Below.refl _ w) (.cells #[int i64 d0,int i64 d1,int i64 d2,int i64 d3] 47)) (.cells #[int i64 0,int i64 0,int i64 0,int i64 0,int i64 0,int i64 0,int i64 0,int i64 0,.slice none 0 0] 80);have WI:=Q.later hb;have HH:Hid _:=h;have HW:Hid _:=Q
 have p:w.heap.size<=w.heap.size+1:=by omega
 have HNE:Hid _:=ab;clear h Q ab;go_enter Tryz.func107,Tryz.ntmps107
 go_wp2_with fail
 refine(qa0 WI).mono ?_;rintro e w1 ⟨rfl,u⟩;replace g:=g.later u;replace c:=c.later u;replace hb:=qac hb u;clear u WI;have i:∀(R:World) (ev:Int),qay S log.length now d0 d1 d2 d3 ws=ev->ev≠0->Below w.heap.size w R->Hid (qq6 w b (.slice la log.length lc) wv sv S log waits now d0 d1 d2 d3 ws (.returned (.tuple #[.agg #[int i64 0,int i64 0,int i64 0,int i64 0,int i64 0,int i64 0,int i64 0,int i64 0,.slice none 0 0],int i64 ev])) R):=λR ev U h2 h3=>.inl ⟨by rw[U];exact h2,by rw[U],h3⟩;cases hok:qd7 ws
 ·have E:Hid (qay S log.length now d0 d1 d2 d3 ws=1):=by show qay S log.length now d0 d1 d2 d3 ws=1;unfold qay;rw[if_pos hok]
  have v:=c.cell 0 _ rfl;have p0:=c.free 0 (by simp[txZ]);have y:=c.cell 1 _ rfl;have p1:=c.free 1 (by simp[txZ]);have z:=c.cell 2 _ rfl;have p2:=c.free 2 (by simp[txZ]);have B:=c.cell 3 _ rfl;have p3:=c.free 3 (by simp[txZ]);have C:=c.cell 4 _ rfl;have D:=c.free 4 (by simp[txZ]);have F:=c.cell 5 _ rfl;have G:=c.free 5 (by simp[txZ]);have H:=c.cell 6 _ rfl;have I:=c.free 6 (by simp[txZ]);have J:=c.cell 7 _ rfl;have K:=c.free 7 (by simp[txZ]);have L:=c.cell 8 _ rfl;have M:=c.free 8 (by simp[txZ]);have j:=qbk c rfl 0 0 0 0 0 0 0 0 (.slice none 0 0);have k:=qfu hb p 0 0 0 0 0 0 0 0 (.slice none 0 0);have l:=i _ 1 E.out (by decide) k;clear i hok
  go_wp2_with fail
  exact bodyPost_ret (qc1 j rfl rfl) rfl l.out
 ·have N:Hid _:=hok;clear hok;have m:Hid _:=HH.out.later hb;have c0:=Later.cell g.c0;have c1:=Later.cell g.c1;have c2:=Later.cell g.c2;have c3:=Later.cell g.c3;have V:=Later.cell (m.out.box.cell 1 _ rfl);have W:=Later.cell (m.out.box.cell 2 _ rfl);have X:=Later.cell (m.out.box.cell 3 _ rfl);have Y:=Later.cell (m.out.box.cell 4 _ rfl);cases hv:qau d0 d1 d2 d3
  ·have o:Hid _:=hv
   have E:Hid (qay S log.length now d0 d1 d2 d3 ws=10):=by show qay S log.length now d0 d1 d2 d3 ws=10;unfold qay;rw[if_neg (by rw[N.out];decide),if_pos hv]
   clear hv
   go_wp2_with fail
   refine qaa (by kernel_rfl) (by kernel_rfl) ?_
   repeat (go_big_quiet_step (first|rfl|(go_at_call 131;with_reducible exact qab (qaq o.out _))))
   refine wpQuiet_nil ?_;rintro w2 ⟨⟨_,d⟩,rfl⟩;replace c:=c.later d;replace hb:=qac hb d;clear d c0 c1 c2 c3 V W X Y m;have v:=c.cell 0 _ rfl;have p0:=c.free 0 (by simp[txZ]);have y:=c.cell 1 _ rfl;have p1:=c.free 1 (by simp[txZ]);have z:=c.cell 2 _ rfl;have p2:=c.free 2 (by simp[txZ]);have B:=c.cell 3 _ rfl;have p3:=c.free 3 (by simp[txZ]);have C:=c.cell 4 _ rfl;have D:=c.free 4 (by simp[txZ]);have F:=c.cell 5 _ rfl;have G:=c.free 5 (by simp[txZ]);have H:=c.cell 6 _ rfl;have I:=c.free 6 (by simp[txZ]);have J:=c.cell 7 _ rfl;have K:=c.free 7 (by simp[txZ]);have L:=c.cell 8 _ rfl;have M:=c.free 8 (by simp[txZ]);have j:=qbk c rfl 0 0 0 0 0 0 0 0 (.slice none 0 0);have k:=qfu hb p 0 0 0 0 0 0 0 0 (.slice none 0 0);have l:=i _ 10 E.out (by decide) k;clear i
   go_wp2_with fail
   exact bodyPost_ret (qc1 j rfl rfl) rfl l.out
  ·have o:Hid _:=hv;clear hv;cases hc:qe3 S.a0 S.a1 S.a2 S.a3 d0 d1 d2 d3
   ·have q:Hid _:=hc
    have E:Hid (qay S log.length now d0 d1 d2 d3 ws=10):=by show qay S log.length now d0 d1 d2 d3 ws=10;unfold qay;rw[if_neg (by rw[N.out];decide),if_neg (by rw[o.out];decide),if_pos hc]
    clear hc
    go_wp2_with fail
    refine qaa (by kernel_rfl) (by kernel_rfl) ?_
    repeat (go_big_quiet_step (first|rfl|(go_at_call 131;with_reducible exact qab (qaq o.out _))|(go_at_call 70;with_reducible exact qab (qbc q.out _))))
    refine wpQuiet_nil ?_;rintro w2 ⟨⟨_,d⟩,rfl⟩;replace c:=c.later d;replace hb:=qac hb d;clear d c0 c1 c2 c3 V W X Y m;have v:=c.cell 0 _ rfl;have p0:=c.free 0 (by simp[txZ]);have y:=c.cell 1 _ rfl;have p1:=c.free 1 (by simp[txZ]);have z:=c.cell 2 _ rfl;have p2:=c.free 2 (by simp[txZ]);have B:=c.cell 3 _ rfl;have p3:=c.free 3 (by simp[txZ]);have C:=c.cell 4 _ rfl;have D:=c.free 4 (by simp[txZ]);have F:=c.cell 5 _ rfl;have G:=c.free 5 (by simp[txZ]);have H:=c.cell 6 _ rfl;have I:=c.free 6 (by simp[txZ]);have J:=c.cell 7 _ rfl;have K:=c.free 7 (by simp[txZ]);have L:=c.cell 8 _ rfl;have M:=c.free 8 (by simp[txZ]);have j:=qbk c rfl 0 0 0 0 0 0 0 0 (.slice none 0 0);have k:=qfu hb p 0 0 0 0 0 0 0 0 (.slice none 0 0);have l:=i _ 10 E.out (by decide) k;clear i
    go_wp2_with fail
    exact bodyPost_ret (qc1 j rfl rfl) rfl l.out
   ·have q:Hid _:=hc;clear hc
    go_wp2_with fail
    refine qaa (by kernel_rfl) (by kernel_rfl) ?_
    repeat (go_big_quiet_step (first|rfl|(go_at_call 131;with_reducible exact qab (qaq o.out _))|(go_at_call 70;with_reducible exact qab (qbc q.out _))))
    refine wpQuiet_nil ?_;rintro w2 ⟨⟨_,d⟩,rfl⟩;replace c:=c.later d;replace g:=g.later d;replace hb:=qac hb d;have r:Hid _:=m.out.later d;clear d c0 c1 c2 c3 V W X Y m;have s7:=r.out.box.cell 7 _ rfl;by_cases hn:200<=log.length
    ·have E:Hid (qay S log.length now d0 d1 d2 d3 ws=12):=by show qay S log.length now d0 d1 d2 d3 ws=12;unfold qay;rw[if_neg (by rw[N.out];decide),if_neg (by rw[o.out];decide),if_neg (by rw[q.out];decide),if_pos hn]
     have h200:(200:Int)<=(log.length:Int):=by omega
     have v:=c.cell 0 _ rfl;have p0:=c.free 0 (by simp[txZ]);have y:=c.cell 1 _ rfl;have p1:=c.free 1 (by simp[txZ]);have z:=c.cell 2 _ rfl;have p2:=c.free 2 (by simp[txZ]);have B:=c.cell 3 _ rfl;have p3:=c.free 3 (by simp[txZ]);have C:=c.cell 4 _ rfl;have D:=c.free 4 (by simp[txZ]);have F:=c.cell 5 _ rfl;have G:=c.free 5 (by simp[txZ]);have H:=c.cell 6 _ rfl;have I:=c.free 6 (by simp[txZ]);have J:=c.cell 7 _ rfl;have K:=c.free 7 (by simp[txZ]);have L:=c.cell 8 _ rfl;have M:=c.free 8 (by simp[txZ]);have j:=qbk c rfl 0 0 0 0 0 0 0 0 (.slice none 0 0);have k:=qfu hb p 0 0 0 0 0 0 0 0 (.slice none 0 0);have l:=i _ 12 E.out (by decide) k;clear i
     go_wp2_with fail
     exact bodyPost_ret (qc1 j rfl rfl) rfl l.out
    ·have Z:Hid (qay S log.length now d0 d1 d2 d3 ws=(qeo S.lw S.lc now).2.2):=by show qay S log.length now d0 d1 d2 d3 ws=_;unfold qay;rw[if_neg (by rw[N.out];decide),if_neg (by rw[o.out];decide),if_neg (by rw[q.out];decide),if_neg hn]
     have h200:¬(200:Int)<=(log.length:Int):=by omega
     have k5:=r.out.box.cell 5 _ rfl;have k6:=r.out.box.cell 6 _ rfl
     go_wp2_with fail
     refine(qls S.lw S.lc now _).mono ?_;rintro e w3 ⟨rfl,s⟩;replace c:=c.later s;replace g:=g.later s;replace hb:=qac hb s;have M3:Hid _:=r.out.later s;clear s r s7 k5 k6;obtain⟨⟨nw,O,ne⟩,P⟩:∃x,qeo S.lw S.lc now=x:=⟨_,rfl⟩;have HNX:Hid _:=P;rw[P];rw[P]at Z;clear P;replace c:=c.boxed (.cells #[int i64 nw,int i64 O] 52);replace g:=g.boxed (.cells #[int i64 nw,int i64 O] 52);replace hb:=boxed hb (.cells #[int i64 nw,int i64 O] 52);have RS:=qag.new (w:=w3) (T:=52) [int i64 nw,int i64 O] rfl;by_cases aa:ne≠0
     ·have U:(ne==0)=false:=by simp[aa]
      have h2:(ne !=0)=true:=by simp[aa]
      have v:=c.cell 0 _ rfl;have p0:=c.free 0 (by simp[txZ]);have y:=c.cell 1 _ rfl;have p1:=c.free 1 (by simp[txZ]);have z:=c.cell 2 _ rfl;have p2:=c.free 2 (by simp[txZ]);have B:=c.cell 3 _ rfl;have p3:=c.free 3 (by simp[txZ]);have C:=c.cell 4 _ rfl;have D:=c.free 4 (by simp[txZ]);have F:=c.cell 5 _ rfl;have G:=c.free 5 (by simp[txZ]);have H:=c.cell 6 _ rfl;have I:=c.free 6 (by simp[txZ]);have J:=c.cell 7 _ rfl;have K:=c.free 7 (by simp[txZ]);have L:=c.cell 8 _ rfl;have M:=c.free 8 (by simp[txZ]);have j:=qbk c rfl 0 0 0 0 0 0 0 0 (.slice none 0 0);have k:=qfu hb p 0 0 0 0 0 0 0 0 (.slice none 0 0);have l:=i _ ne Z.out (by exact aa) k;clear i
      go_wp2_with fail
      exact bodyPost_ret (qc1 j rfl rfl) rfl l.out
     ·have he0:ne=0:=by omega
      subst he0;exact absurd Z.out HNE.out
end
section
open Go.Value Go.IntKind
variable {w:World} {b:Nat} {lv wv sv:Value} {S:qaf}
theorem qc6.keptB {w':World} {log waits:List TxM} (h:qc6 w b lv wv sv S log waits) (a:∀k,(qap b lv wv sv k\/∃m∈log++waits,m.blk k)->w'.heap[k]?=w.heap[k]?) (d:w.heap.size<=w'.heap.size):qc6 w' b lv wv sv S log waits:=
 ⟨h.box.kept (a b (.inl (.inl rfl))) d,qad h.rlog (λk e=>a k (.inl (.inr (.inl e)))),qad h.rwait (λk e=>a k (.inl (.inr (.inr (.inl e))))),qad h.own (λk e=>a k (.inl (.inr (.inr (.inr e))))),h.ok,h.nl,h.nw,h.ns,h.lw,h.ls,h.ws,
   λm c=>⟨(h.hold m c).1.kept (λk e=>a k (.inr ⟨m,c,e⟩)),(h.hold m c).2⟩⟩
def qq7 (w:World) (b:Nat) (lv wv sv:Value) (S:qaf) (log waits:List TxM) (now d0 d1 d2 d3:Int) (ws:List Wr) (e:Ending) (w':World):Prop:=
 ∃(wa:Option Addr) (wc:Nat) (lv' sv':Value),e=.returned (.tuple #[.agg (txC ⟨qbt S now d0 d1 d2 d3 ws,wa,wc⟩).toArray,int i64 0])/\
  qc6 w' b lv' wv sv' (qbr S (qbt S now d0 d1 d2 d3 ws)) (log++[⟨qbt S now d0 d1 d2 d3 ws,wa,wc⟩]) waits/\(∀k,qap b lv' wv sv' k->qap b lv wv sv k\/w.heap.size<=k)/\qae (qap b lv wv sv) w w'/\∀k,(⟨qbt S now d0 d1 d2 d3 ws,wa,wc⟩:TxM).blk k->w.heap.size<=k
variable {ws:List Wr}
theorem qpl {r l:World} {g n:Nat} {s t:Value} {log waits:List TxM} {now d0 d1 d2 d3 x0 x1 x2 x3 a c d f:Int} (h:qc6 w b lv wv sv S log waits) (hb:Below w.heap.size w r) (E:w.heap.size+1<r.heap.size)
 (A:qc6 l b s wv t (qbr S ⟨x0,x1,x2,x3,a,c,d,f,ws⟩) (log++[⟨⟨x0,x1,x2,x3,a,c,d,f,ws⟩,some ⟨g,0,none⟩,n⟩]) waits) (x:∀k,qap b s wv t k->qap b lv wv sv k\/r.heap.size<=k) (B:qae (qap b lv wv sv) r l) (F:w.heap.size+1<g)
 (y:qbt S now d0 d1 d2 d3 ws=⟨x0,x1,x2,x3,a,c,d,f,ws⟩):
 Hid (qq7 w b lv wv sv S log waits now d0 d1 d2 d3 ws (.returned (.tuple #[.agg #[int i64 x0,int i64 x1,int i64 x2,int i64 x3,int i64 a,int i64 c,int i64 d,int i64 f,.slice (some ⟨g,0,none⟩) ws.length n],int i64 0])) (qbg l (w.heap.size+1) x0 x1 x2 x3 a c d f (.slice (some ⟨g,0,none⟩) ws.length n))):=by
 have C:∀k,k≠w.heap.size+1->(qbg l (w.heap.size+1) x0 x1 x2 x3 a c d f (.slice (some ⟨g,0,none⟩) ws.length n)).heap[k]?=l.heap[k]?:=λk i=>qhd i x0 x1 x2 x3 a c d f _
 have G:(qbg l (w.heap.size+1) x0 x1 x2 x3 a c d f (.slice (some ⟨g,0,none⟩) ws.length n)).heap.size=l.heap.size:=by simp only[qbg,World.setCell,Array.size_modify]
 have D:=qzo ((qae.ofBelow hb).more B (λk i=>.inl i)) (Nat.le_succ w.heap.size) x0 x1 x2 x3 a c d f (.slice (some ⟨g,0,none⟩) ws.length n)
 generalize qbg l (w.heap.size+1) x0 x1 x2 x3 a c d f (.slice (some ⟨g,0,none⟩) ws.length n)=W at*
 refine⟨some ⟨g,0,none⟩,n,s,t,by rw[y];rfl,?_,λk i=>(x k i).imp id (λe=>by omega),D,λk i=>by
  obtain⟨_,o,j⟩:=i;injection j with j;injection j with j e2
  omega⟩
 rw[y];refine A.keptB (λk i=>C k (λe=>?_)) (by omega);rcases i with p|⟨m,u,p⟩
 ·rcases x k p with q|q
  ·have:=h.lt k q;omega
  ·omega
 ·have z:∀m∈log++waits,m.blk k->False:=λm u p=>by
   have:=(h.hold m u).1.blk_lt k p;omega
  rcases List.mem_append.1 u with q|q
  ·rcases List.mem_append.1 q with v|v
   ·exact z m (List.mem_append.2 (.inl v)) p
   ·rw[List.mem_singleton.1 v]at p;obtain⟨_,o,j⟩:=p;injection j with j;injection j with j e2;omega
  ·exact z m (List.mem_append.2 (.inr q)) p
theorem qpa {log waits:List TxM} (now d0 d1 d2 d3:Int) {a:Option Addr} {cap:Nat} (w:World) (h:qc6 w b lv wv sv S log waits) (hI:qcr S) (hlog:log.length=S.log.length) (hW:qat w a cap ws) (hX:∀k O,ws≠[]->a=some ⟨k,O,none⟩->¬qap b lv wv sv k) (hE0:qay S log.length now d0 d1 d2 d3 ws=0):
 Calls Tryz.prog 107 #[.pointer (some ⟨b,0,none⟩),int i64 now,.agg #[int i64 d0,int i64 d1,int i64 d2,int i64 d3],.slice a ws.length cap] w (qq7 w b lv wv sv S log waits now d0 d1 d2 d3 ws):=by
 obtain⟨J,lc,rfl,hT⟩:=qa6 h.rlog;have hc1:=hT.len;have hc2:=hT.cap;have C:=(qbe.new w 47 d0 d1 d2 d3).boxed (.cells #[int i64 0,int i64 0,int i64 0,int i64 0,int i64 0,int i64 0,int i64 0,int i64 0,.slice none 0 0] 80);have E:qag ((w.alloc (.cells #[int i64 d0,int i64 d1,int i64 d2,int i64 d3] 47)).alloc (.cells #[int i64 0,int i64 0,int i64 0,int i64 0,int i64 0,int i64 0,int i64 0,int i64 0,.slice none 0 0] 80)) (w.heap.size+1) txZ:=qag.new (w:=w.alloc (.cells #[int i64 d0,int i64 d1,int i64 d2,int i64 d3] 47)) (T:=80) (n:=w.heap.size+1) [int i64 0,int i64 0,int i64 0,int i64 0,int i64 0,int i64 0,int i64 0,int i64 0,.slice none 0 0] (by simp);have hb:=boxed (boxed (Below.refl _ w) (.cells #[int i64 d0,int i64 d1,int i64 d2,int i64 d3] 47)) (.cells #[int i64 0,int i64 0,int i64 0,int i64 0,int i64 0,int i64 0,int i64 0,int i64 0,.slice none 0 0] 80);have WI:=hW.later hb;have HH:Hid (qc6 w b (.slice J log.length lc) wv sv S log waits):=h;have HW:Hid (qat w a cap ws):=hW
 have hB:w.heap.size<=w.heap.size+1:=by omega
 obtain⟨z1,z2,z3,z4,z5⟩:=qhh hE0;have HOK:Hid (qd7 ws=true):=z1;have HV:Hid (qau d0 d1 d2 d3=true):=z2;have HC:Hid (qe3 S.a0 S.a1 S.a2 S.a3 d0 d1 d2 d3=true):=z3;have HN5:Hid ((qeo S.lw S.lc now).2.2=0):=z5;have HE:Hid (qay S log.length now d0 d1 d2 d3 ws=0):=hE0
 have h200:¬(200:Int)<=(log.length:Int):=by omega
 have HI:Hid (qcr S):=hI;have hi0:=hI.id0;have hi3:=hI.id3;clear h hW hE0 z1 z2 z3 z4 z5 hI;go_enter Tryz.func107,Tryz.ntmps107
 go_wp2_with fail
 refine(qa0 WI).mono ?_;rintro e w1 ⟨rfl,hb1⟩;replace C:=C.later hb1;replace E:=E.later hb1;replace hb:=qac hb hb1;clear hb1 WI;rw[HOK.out];have M1:Hid (qc6 w1 b (.slice J log.length lc) wv sv S log waits):=HH.out.later hb;have c0:=Later.cell C.c0;have c1:=Later.cell C.c1;have c2:=Later.cell C.c2;have c3:=Later.cell C.c3;have k1:=Later.cell (M1.out.box.cell 1 _ rfl);have k2:=Later.cell (M1.out.box.cell 2 _ rfl);have k3:=Later.cell (M1.out.box.cell 3 _ rfl);have k4:=Later.cell (M1.out.box.cell 4 _ rfl)
 go_wp2_with fail
 refine qaa (by kernel_rfl) (by kernel_rfl) ?_
 repeat (go_big_quiet_step (first|rfl|(go_at_call 131;with_reducible exact qab (qaq HV.out _))|(go_at_call 70;with_reducible exact qab (qbc HC.out _))))
 refine wpQuiet_nil ?_;rintro w2 ⟨⟨_,hb2⟩,rfl⟩;replace E:=E.later hb2;replace C:=C.later hb2;replace hb:=qac hb hb2;have M2:Hid (qc6 w2 b (.slice J log.length lc) wv sv S log waits):=M1.out.later hb2;clear hb2 c0 c1 c2 c3 k1 k2 k3 k4 M1;have s7:=M2.out.box.cell 7 _ rfl;have k5:=M2.out.box.cell 5 _ rfl;have k6:=M2.out.box.cell 6 _ rfl
 go_wp2_with fail
 refine(qls S.lw S.lc now _).mono ?_;rintro e X ⟨rfl,hb3⟩;have M3:Hid (qc6 X b (.slice J log.length lc) wv sv S log waits):=M2.out.later hb3;obtain⟨⟨nw,i,ne⟩,hnx⟩:∃x,qeo S.lw S.lc now=x:=⟨_,rfl⟩;have HNX:Hid (qeo S.lw S.lc now=(nw,i,ne)):=hnx
 have hne:ne=0:=by have:=HN5.out;rw[hnx]at this;exact this
 rw[hnx];clear hnx;subst hne;have HSZ:Hid (w.heap.size+1<X.heap.size):=(E.later hb3).lt;replace E:=(E.later hb3).boxed (.cells #[int i64 nw,int i64 i] 52);replace C:=(C.later hb3).boxed (.cells #[int i64 nw,int i64 i] 52);replace hb:=boxed (qac hb hb3) (.cells #[int i64 nw,int i64 i] 52);have RS:=qag.new (w:=X) (T:=52) [int i64 nw,int i64 i] rfl;have M4:Hid (qc6 (X.alloc (.cells #[int i64 nw,int i64 i] 52)) b (.slice J log.length lc) wv sv S log waits):=M3.out.later (boxed (Below.refl _ X) _);clear hb3 M2 M3 s7 k5 k6;obtain⟨D,hD⟩:∃D,qao S.id S.a0 S.a1 S.a2 S.a3=D:=⟨_,rfl⟩;have hd:=HI.out.dep S.id;rw[hD]at hd;have hwr:=qn8 hd.1 hd.2
 have HCT0:qbt S now d0 d1 d2 d3 ws=⟨S.id,D+1,nw,i,qf8 S.id D d0,qf7 S.id D d1,qgf S.id D d2,qf5 S.id D d3,ws⟩:=by unfold qbt;rw[hD,HNX.out]
 go_wp2_with fail
 obtain⟨W4,hW4⟩:∃W4,X.alloc (.cells #[int i64 nw,int i64 i] 52)=W4:=⟨_,rfl⟩;rw[hW4]at E C hb RS M4 ⊢;clear hW4;have k0:=Later.cell (M4.out.box.cell 0 _ rfl);have ks:=Later.cell (qkw M4.out.box hi0 hi3);rw[hD]at ks
 have hi4:S.id<4:=by omega
 have HD:Hid (qao S.id S.a0 S.a1 S.a2 S.a3=D):=hD;have HFT:Hid (∀k,qap b (.slice J log.length lc) wv sv k->k<w.heap.size):=HH.out.lt
 have nb:b≠w.heap.size:=by have:=HFT.out b (.inl rfl);omega
 clear hD;refine qaa (by kernel_rfl) (by kernel_rfl) ?_
 repeat (go_big_quiet_step (first|rfl|fail))
 refine wpQuiet_nil ?_;rintro W5 ⟨⟨_,hb5⟩,rfl⟩;replace E:=E.later hb5;replace C:=C.later hb5;replace RS:=RS.later hb5;replace hb:=qac hb hb5;have M5:Hid (qc6 W5 b (.slice J log.length lc) wv sv S log waits):=M4.out.later hb5;clear hb5 k0 ks M4;have k0:=M5.out.box.cell 0 _ rfl;have v1:=qmv C hi0 hi3;have v2:=qul C hi0 hi3
 go_wp2_with fail
 have RD6:=qze C hi0 hi3 D;have RT6:=E.far ⟨w.heap.size,S.id.toNat,none⟩ (int i64 D) (by simp);have RS6:=RS.far ⟨w.heap.size,S.id.toNat,none⟩ (int i64 D) (by have:=HSZ.out;simp only;omega);have hb6:=hb.setCell (p:=⟨w.heap.size,S.id.toNat,none⟩) (Nat.le_refl _) (int i64 D);have M6:Hid (qc6 (W5.setCell ⟨w.heap.size,S.id.toNat,none⟩ (int i64 D)) b (.slice J log.length lc) wv sv S log waits):=HH.out.later hb6;have HS6:Hid (X.heap.size<(W5.setCell ⟨w.heap.size,S.id.toNat,none⟩ (int i64 D)).heap.size):=RS6.lt;obtain⟨c,hW6⟩:∃c,W5.setCell ⟨w.heap.size,S.id.toNat,none⟩ (int i64 D)=c:=⟨_,rfl⟩;rw[hW6]at RD6 RT6 RS6 hb6 M6 HS6 ⊢;obtain⟨v,he0⟩:∃x,qf8 S.id D d0=x:=⟨_,rfl⟩;obtain⟨r,he1⟩:∃x,qf7 S.id D d1=x:=⟨_,rfl⟩;obtain⟨s,he2⟩:∃x,qgf S.id D d2=x:=⟨_,rfl⟩;obtain⟨y,he3⟩:∃x,qf5 S.id D d3=x:=⟨_,rfl⟩;rw[he0,he1,he2,he3]at RD6 HCT0;have HCT:Hid (qbt S now d0 d1 d2 d3 ws=⟨S.id,D+1,nw,i,v,r,s,y,ws⟩):=HCT0;clear hW6 he0 he1 he2 he3 HCT0 C E RS hb M5 k0 v1 v2;have Y0:=λ(w':World) (h:Below c.heap.size c w')=>cell_later h (M6.out.box.cell 0 _ rfl);have Y2:=λ(w':World) (h:Below c.heap.size c w')=>cell_later h (RS6.cell 0 _ rfl);have Y3:=λ(w':World) (h:Below c.heap.size c w')=>cell_later h (RS6.cell 1 _ rfl);have Y4:=λ(w':World) (h:Below c.heap.size c w')=>cell_later h RD6.c0;have Y5:=λ(w':World) (h:Below c.heap.size c w')=>cell_later h RD6.c1;have Y6:=λ(w':World) (h:Below c.heap.size c w')=>cell_later h RD6.c2;have Y7:=λ(w':World) (h:Below c.heap.size c w')=>cell_later h RD6.c3;have hb60:=(Below.refl c.heap.size c).drew
 obtain⟨Y,O,haa,hcc⟩:∃Y O,a=some ⟨Y,O,none⟩/\qcy c Y O ws:=by
  rcases(HW.out.later hb6).held with h0|h0
  ·exfalso
   have:=HOK.out;rw[h0]at this;simp[qd7,inB]at this
  ·exact h0
 have K:Hid (1<=ws.length/\ws.length<=5):=by
  have h1:=HOK.out;simp only[qd7,Bool.and_eq_true,qa5]at h1;show _/\_;omega
 have HNW:Hid (∀W,Below c.heap.size c W->∀j u,(qf4 ws)[j]?=some u->W.cell? ((⟨Y,O,none⟩:Addr).add j)=some u):=λW hW=>qo3 (hcc.later hW);subst haa
 have hw2:IntKind.i64.wrap (D+1)=D+1:=by rw[<-qn8 hd.1 hd.2];unfold wrap64 IntKind.wrap;simp[IntKind.signed,IntKind.bits];omega
 obtain⟨i0,hi,hz0,hz1,hz2⟩:=info_parts qmx;clear hcc
 go_region_held3 (λw'=>Below c.heap.size c w') (repeat (first|(with_reducible assumption)|(with_reducible exact Below.refl _ _)|(with_reducible refine boxed ?_ _)|(with_reducible refine Below.drew ?_)|(refine Below.setCell ?_ (by first|(with_reducible exact Nat.le_refl _)|(simp)) _)))
  (first
    |(refine step_append_lies _ rfl (.tmp 74) (.tmp 75) 65 rfl 0 34 i0 (.agg #[int i64 0,.string ⟨#[]⟩,.bool false]) 3 32 Tryz.underlying65 hi hz0 hz1 hz2 rfl (by decide) (.slice (some ⟨c.heap.size,0,none⟩) 0 0) 0 [] (by simp[Act.eval]) (qh1 c 34 rfl 0 (Nat.zero_le _)) ⟨Y,O,none⟩ ws.length cap (qf4 ws) (by simp[Act.eval]) (qdq ws) (HNW.out _ (by repeat (first|(with_reducible assumption)|(with_reducible exact Below.refl _ _)|(with_reducible refine boxed ?_ _)|(with_reducible refine Below.drew ?_)))) (qih ws) (by have:=K.out;omega) (by have:=K.out;simp only[maxLen];omega) (by have:=K.out;omega) (by simp) _ rfl ?_;intro g q z Q L R U;have H:Below c.heap.size c z:=Below.grown (by repeat (first|(with_reducible assumption)|(with_reducible exact Below.refl _ _)|(with_reducible refine boxed ?_ _)|(with_reducible refine Below.drew ?_))) L (by simp<;>omega) (λj hj=>by simp[Value.ownBlock]at hj<;>omega);have M:Hid (c.heap.size<=g/\g<z.heap.size):=⟨by rcases R with h|h<;>simp[Value.ownBlock]at h<;>omega,U⟩)
    |(refine step_append_lies _ rfl (.tmp 74) (.tmp 75) 65 rfl 0 34 i0 (.agg #[int i64 0,.string ⟨#[]⟩,.bool false]) 3 32 Tryz.underlying65 hi hz0 hz1 hz2 rfl (by decide) (.slice (some ⟨c.heap.size+1,0,none⟩) 0 0) 0 [] (by simp[Act.eval]) (qh1 (c.alloc (.cells #[int i64 0,int i64 0,int i64 0,int i64 0,int i64 0,int i64 0,int i64 0,int i64 0,.slice none 0 0] 80)) (n:=c.heap.size+1) 34 (by simp) 0 (Nat.zero_le _)) ⟨Y,O,none⟩ ws.length cap (qf4 ws) (by simp[Act.eval]) (qdq ws) (HNW.out _ (by repeat (first|(with_reducible assumption)|(with_reducible exact Below.refl _ _)|(with_reducible refine boxed ?_ _)|(with_reducible refine Below.drew ?_)))) (qih ws) (by have:=K.out;omega) (by have:=K.out;simp only[maxLen];omega) (by have:=K.out;omega) (by simp) _ rfl ?_;intro g q z Q L R U;have H:Below c.heap.size c z:=Below.grown (by repeat (first|(with_reducible assumption)|(with_reducible exact Below.refl _ _)|(with_reducible refine boxed ?_ _)|(with_reducible refine Below.drew ?_))) L (by simp<;>omega) (λj hj=>by simp[Value.ownBlock]at hj<;>omega);have M:Hid (c.heap.size+1<=g/\g<z.heap.size):=⟨by rcases R with h|h<;>simp[Value.ownBlock]at h<;>omega,U⟩;have d:=(((qag.new (w:=c) (T:=80) [int i64 0,int i64 0,int i64 0,int i64 0,int i64 0,int i64 0,int i64 0,int i64 0,.slice none 0 0] rfl).boxed (.cells #[] 34)).drew).grown L (λe=>by simp[Value.ownBlock]at e<;>omega);have y0:=d.cell 0 _ rfl;have zz0:=d.free 0 (by simp);have y1:=d.cell 1 _ rfl;have zz1:=d.free 1 (by simp);have y2:=d.cell 2 _ rfl;have zz2:=d.free 2 (by simp);have y3:=d.cell 3 _ rfl;have zz3:=d.free 3 (by simp);have y4:=d.cell 4 _ rfl;have zz4:=d.free 4 (by simp);have y5:=d.cell 5 _ rfl;have zz5:=d.free 5 (by simp);have y6:=d.cell 6 _ rfl;have zz6:=d.free 6 (by simp);have y7:=d.cell 7 _ rfl;have zz7:=d.free 7 (by simp);have y8:=d.cell 8 _ rfl;have zz8:=d.free 8 (by simp))
    |(refine step_append_lies _ rfl (.tmp 74) (.tmp 75) 65 rfl 0 34 i0 (.agg #[int i64 0,.string ⟨#[]⟩,.bool false]) 3 32 Tryz.underlying65 hi hz0 hz1 hz2 rfl (by decide) (.slice (some ⟨c.heap.size,0,none⟩) 0 0) 0 [] (by simp[Act.eval]) ((qh1 c 34 rfl 0 (Nat.zero_le _)).alloc (.cells #[int i64 0,int i64 0,int i64 0,int i64 0,int i64 0,int i64 0,int i64 0,int i64 0,.slice none 0 0] 80)) ⟨Y,O,none⟩ ws.length cap (qf4 ws) (by simp[Act.eval]) (qdq ws) (HNW.out _ (by repeat (first|(with_reducible assumption)|(with_reducible exact Below.refl _ _)|(with_reducible refine boxed ?_ _)|(with_reducible refine Below.drew ?_)))) (qih ws) (by have:=K.out;omega) (by have:=K.out;simp only[maxLen];omega) (by have:=K.out;omega) (by simp) _ rfl ?_;intro g q z Q L R U;have H:Below c.heap.size c z:=Below.grown (by repeat (first|(with_reducible assumption)|(with_reducible exact Below.refl _ _)|(with_reducible refine boxed ?_ _)|(with_reducible refine Below.drew ?_))) L (by simp<;>omega) (λj hj=>by simp[Value.ownBlock]at hj<;>omega);have M:Hid ((g=c.heap.size\/c.heap.size+1<g)/\g<z.heap.size):=⟨by rcases R with h|h<;>simp[Value.ownBlock]at h<;>omega,U⟩;have d:=((qag.new (w:=c.alloc (.cells #[] 34)) (T:=80) (n:=c.heap.size+1) [int i64 0,int i64 0,int i64 0,int i64 0,int i64 0,int i64 0,int i64 0,int i64 0,.slice none 0 0] (by simp)).drew).grown L (λe=>by simp[Value.ownBlock]at e<;>omega);have y0:=d.cell 0 _ rfl;have zz0:=d.free 0 (by simp);have y1:=d.cell 1 _ rfl;have zz1:=d.free 1 (by simp);have y2:=d.cell 2 _ rfl;have zz2:=d.free 2 (by simp);have y3:=d.cell 3 _ rfl;have zz3:=d.free 3 (by simp);have y4:=d.cell 4 _ rfl;have zz4:=d.free 4 (by simp);have y5:=d.cell 5 _ rfl;have zz5:=d.free 5 (by simp);have y6:=d.cell 6 _ rfl;have zz6:=d.free 6 (by simp);have y7:=d.cell 7 _ rfl;have zz7:=d.free 7 (by simp);have y8:=d.cell 8 _ rfl;have zz8:=d.free 8 (by simp)))
 focus
  have V:=qje Q;have F:qag (z.alloc (.cells #[int i64 S.id,int i64 (D+1),int i64 nw,int i64 i,int i64 v,int i64 r,int i64 s,int i64 y,.slice (some ⟨g,0,none⟩) ws.length q] 80)) z.heap.size [int i64 S.id,int i64 (D+1),int i64 nw,int i64 i,int i64 v,int i64 r,int i64 s,int i64 y,.slice (some ⟨g,0,none⟩) ws.length q]:=qag.new (w:=z) (T:=80) [int i64 S.id,int i64 (D+1),int i64 nw,int i64 i,int i64 v,int i64 r,int i64 s,int i64 y,.slice (some ⟨g,0,none⟩) ws.length q] rfl;have P:Below c.heap.size c (z.alloc (.cells #[int i64 S.id,int i64 (D+1),int i64 nw,int i64 i,int i64 v,int i64 r,int i64 s,int i64 y,.slice (some ⟨g,0,none⟩) ws.length q] 80)):=boxed H (.cells #[int i64 S.id,int i64 (D+1),int i64 nw,int i64 i,int i64 v,int i64 r,int i64 s,int i64 y,.slice (some ⟨g,0,none⟩) ws.length q] 80);have Z:qat (z.alloc (.cells #[int i64 S.id,int i64 (D+1),int i64 nw,int i64 i,int i64 v,int i64 r,int i64 s,int i64 y,.slice (some ⟨g,0,none⟩) ws.length q] 80)) (some ⟨g,0,none⟩) q ws:=V.later (boxed (Below.refl _ z) (.cells #[int i64 S.id,int i64 (D+1),int i64 nw,int i64 i,int i64 v,int i64 r,int i64 s,int i64 y,.slice (some ⟨g,0,none⟩) ws.length q] 80));obtain⟨N,G⟩:∃N,z.alloc (.cells #[int i64 S.id,int i64 (D+1),int i64 nw,int i64 i,int i64 v,int i64 r,int i64 s,int i64 y,.slice (some ⟨g,0,none⟩) ws.length q] 80)=N:=⟨_,rfl⟩;rw[G]at F P Z ⊢;obtain⟨xb,I⟩:∃x,z.heap.size=x:=⟨_,rfl⟩;have HQX:Hid (c.heap.size<=g/\c.heap.size<=xb):=⟨by have:=M.out;omega,by rw[<-I];first|exact H.size|omega⟩;rw[I]at F ⊢;clear G I V Q L R U M H
 rotate_left
 focus
  have V:=qje Q;have F:qag (qbg z (c.heap.size+1) S.id (D+1) nw i v r s y (.slice (some ⟨g,0,none⟩) ws.length q)) (c.heap.size+1) [int i64 S.id,int i64 (D+1),int i64 nw,int i64 i,int i64 v,int i64 r,int i64 s,int i64 y,.slice (some ⟨g,0,none⟩) ws.length q]:=qbk d rfl S.id (D+1) nw i v r s y (.slice (some ⟨g,0,none⟩) ws.length q);have P:Below c.heap.size c (qbg z (c.heap.size+1) S.id (D+1) nw i v r s y (.slice (some ⟨g,0,none⟩) ws.length q)):=qfu H (Nat.le_succ _) S.id (D+1) nw i v r s y (.slice (some ⟨g,0,none⟩) ws.length q);have Z:qat (qbg z (c.heap.size+1) S.id (D+1) nw i v r s y (.slice (some ⟨g,0,none⟩) ws.length q)) (some ⟨g,0,none⟩) q ws:=qat.kept (m:=⟨⟨S.id,D+1,nw,i,v,r,s,y,ws⟩,some ⟨g,0,none⟩,q⟩) (w:=z) V (λk e=>qhd (by obtain⟨_,o,e⟩:=e;injection e with e;injection e with e;have:=M.out;omega) S.id (D+1) nw i v r s y (.slice (some ⟨g,0,none⟩) ws.length q));obtain⟨N,G⟩:∃N,qbg z (c.heap.size+1) S.id (D+1) nw i v r s y (.slice (some ⟨g,0,none⟩) ws.length q)=N:=⟨_,rfl⟩;rw[G]at F P Z;simp only[qbg]at G;rw[G];obtain⟨xb,I⟩:∃x,c.heap.size+1=x:=⟨_,rfl⟩;have HQX:Hid (c.heap.size<=g/\c.heap.size<=xb):=⟨by have:=M.out;omega,by rw[<-I];first|exact H.size|omega⟩;rw[I]at F ⊢;clear G I V Q L R U M H d y0 zz0 y1 zz1 y2 zz2 y3 zz3 y4 zz4 y5 zz5 y6 zz6 y7 zz7 y8 zz8
 rotate_left
 focus
  have V:=qje Q;have F:qag (qbg z c.heap.size S.id (D+1) nw i v r s y (.slice (some ⟨g,0,none⟩) ws.length q)) c.heap.size [int i64 S.id,int i64 (D+1),int i64 nw,int i64 i,int i64 v,int i64 r,int i64 s,int i64 y,.slice (some ⟨g,0,none⟩) ws.length q]:=qbk d rfl S.id (D+1) nw i v r s y (.slice (some ⟨g,0,none⟩) ws.length q);have P:Below c.heap.size c (qbg z c.heap.size S.id (D+1) nw i v r s y (.slice (some ⟨g,0,none⟩) ws.length q)):=qfu H (Nat.le_refl _) S.id (D+1) nw i v r s y (.slice (some ⟨g,0,none⟩) ws.length q);have Z:qat (qbg z c.heap.size S.id (D+1) nw i v r s y (.slice (some ⟨g,0,none⟩) ws.length q)) (some ⟨g,0,none⟩) q ws:=qat.kept (m:=⟨⟨S.id,D+1,nw,i,v,r,s,y,ws⟩,some ⟨g,0,none⟩,q⟩) (w:=z) V (λk e=>qhd (by obtain⟨_,o,e⟩:=e;injection e with e;injection e with e;have:=M.out;omega) S.id (D+1) nw i v r s y (.slice (some ⟨g,0,none⟩) ws.length q));obtain⟨N,G⟩:∃N,qbg z c.heap.size S.id (D+1) nw i v r s y (.slice (some ⟨g,0,none⟩) ws.length q)=N:=⟨_,rfl⟩;rw[G]at F P Z;simp only[qbg]at G;rw[G];obtain⟨xb,I⟩:∃x,c.heap.size=x:=⟨_,rfl⟩;have HQX:Hid (c.heap.size<=g/\c.heap.size<=xb):=⟨by have:=M.out;omega,by rw[<-I];first|exact H.size|omega⟩;rw[I]at F ⊢;clear G I V Q L R U M H d y0 zz0 y1 zz1 y2 zz2 y3 zz3 y4 zz4 y5 zz5 y6 zz6 y7 zz7 y8 zz8
 rotate_left
 all_goals
  clear Y0 Y2 Y3 Y4 Y5 Y6 Y7 hb60;have RTF:=RT6.later P;have MF:=M6.out.later P;have HSF:Hid (w.heap.size+1<c.heap.size):=RT6.lt;have HBW:Hid (Below w.heap.size w N):=qac hb6 P;have HLG:Hid (log.length=S.log.length):=hlog
  have HSL:Hid (S.l.length+ws.length<=1000/\log.length<=1000):=by
   have q1:=HI.out.len;have q2:=K.out;have q3:=HLG.out
   have q4:log.length<200:=by omega
   show _/\_;omega
  have nfx:∀k,w.heap.size<=k->¬qap b (.slice J log.length lc) wv sv k:=λk hk hf=>by
   have:=HFT.out k hf;omega
  have AP:=qi0 ⟨⟨S.id,D+1,nw,i,v,r,s,y,ws⟩,some ⟨g,0,none⟩,q⟩ N MF ⟨Z,λk e hf=>by
   obtain⟨_,o,e⟩:=e;injection e with e;injection e with r s;have q1:=HQX.out.1;have q2:=HFT.out k hf;have q3:=HSF.out
   omega⟩ hi0 hi3 HSL.out.1 HSL.out.2
  have HNF:Hid (∀k,w.heap.size<=k->¬qap b (.slice J log.length lc) wv sv k):=nfx;clear MF Z nfx;obtain⟨x0,x1,x2,x3,x4,x5,x6,x7,x8⟩:=F.c9
  go_wp2_with fail
  refine AP.mono ?_;rintro e w9 ⟨rfl,lv',sv',M9,nf9,tt9⟩;have RX9:=F.kept (tt9.block _ F.lt (HNF.out _ (by have:=HQX.out.2;have:=HSF.out;omega))) tt9.size;have B:=RTF.kept (tt9.block _ RTF.lt (HNF.out _ (by omega))) tt9.size;have FIN:=qpl HH.out HBW.out (by have:=HSF.out;have:=P.size;omega) M9 nf9 tt9 (by have:=HQX.out.1;have:=HSF.out;omega) HCT.out;clear M9 nf9 tt9 x0 x1 x2 x3 x4 x5 x6 x7 x8 AP RTF F;obtain⟨x0,x1,x2,x3,x4,x5,x6,x7,x8⟩:=RX9.c9;have r0:=B.cell 0 _ rfl;have p0:=B.free 0 (by simp[txZ]);have r1:=B.cell 1 _ rfl;have p1:=B.free 1 (by simp[txZ]);have r2:=B.cell 2 _ rfl;have p2:=B.free 2 (by simp[txZ]);have r3:=B.cell 3 _ rfl;have p3:=B.free 3 (by simp[txZ]);have r4:=B.cell 4 _ rfl;have p4:=B.free 4 (by simp[txZ]);have r5:=B.cell 5 _ rfl;have p5:=B.free 5 (by simp[txZ]);have r6:=B.cell 6 _ rfl;have p6:=B.free 6 (by simp[txZ]);have r7:=B.cell 7 _ rfl;have p7:=B.free 7 (by simp[txZ]);have r8:=B.cell 8 _ rfl;have p8:=B.free 8 (by simp[txZ]);have RZF:=qbk B rfl S.id (D+1) nw i v r s y (.slice (some ⟨g,0,none⟩) ws.length q);clear RX9 B
  go_wp2_with fail
  exact bodyPost_ret (qc1 RZF rfl rfl) rfl FIN.out
end
section
open Tryz Go.Value Go.IntKind
theorem qnm (site seq wall count d0 d1 d2 d3:Int) (a:Option Addr) (cap:Nat) (l:List Wr) (w:World) (i:qat w a cap l):
 Calls prog 115 #[.agg #[int i64 site,int i64 seq,int i64 wall,int i64 count,int i64 d0,int i64 d1,int i64 d2,int i64 d3,.slice a l.length cap]] w λe w'=>e=.returned (.bool (qc7 site seq wall count d0 d1 d2 d3 l))/\Below w.heap.size w w':=by
 have r:=Later.one;have d:=i.later (boxed (Below.refl _ w) (.cells #[int i64 site,int i64 seq,int i64 wall,int i64 count,int i64 d0,int i64 d1,int i64 d2,int i64 d3,.slice a l.length cap] 80));clear i
 have c0:(w.alloc (.cells #[int i64 site,int i64 seq,int i64 wall,int i64 count,int i64 d0,int i64 d1,int i64 d2,int i64 d3,.slice a l.length cap] 80)).cell? ⟨w.heap.size,0,none⟩=some (int i64 site):=by go_simp
 have c1:(w.alloc (.cells #[int i64 site,int i64 seq,int i64 wall,int i64 count,int i64 d0,int i64 d1,int i64 d2,int i64 d3,.slice a l.length cap] 80)).cell? ⟨w.heap.size,1,none⟩=some (int i64 seq):=by go_simp
 have c2:(w.alloc (.cells #[int i64 site,int i64 seq,int i64 wall,int i64 count,int i64 d0,int i64 d1,int i64 d2,int i64 d3,.slice a l.length cap] 80)).cell? ⟨w.heap.size,2,none⟩=some (int i64 wall):=by go_simp
 have c3:(w.alloc (.cells #[int i64 site,int i64 seq,int i64 wall,int i64 count,int i64 d0,int i64 d1,int i64 d2,int i64 d3,.slice a l.length cap] 80)).cell? ⟨w.heap.size,3,none⟩=some (int i64 count):=by go_simp
 have j:(w.alloc (.cells #[int i64 site,int i64 seq,int i64 wall,int i64 count,int i64 d0,int i64 d1,int i64 d2,int i64 d3,.slice a l.length cap] 80)).cell? ⟨w.heap.size,4,none⟩=some (int i64 d0):=by go_simp
 have k:(w.alloc (.cells #[int i64 site,int i64 seq,int i64 wall,int i64 count,int i64 d0,int i64 d1,int i64 d2,int i64 d3,.slice a l.length cap] 80)).cell? ⟨w.heap.size,5,none⟩=some (int i64 d1):=by go_simp
 have c6:(w.alloc (.cells #[int i64 site,int i64 seq,int i64 wall,int i64 count,int i64 d0,int i64 d1,int i64 d2,int i64 d3,.slice a l.length cap] 80)).cell? ⟨w.heap.size,6,none⟩=some (int i64 d2):=by go_simp
 have m:(w.alloc (.cells #[int i64 site,int i64 seq,int i64 wall,int i64 count,int i64 d0,int i64 d1,int i64 d2,int i64 d3,.slice a l.length cap] 80)).cell? ⟨w.heap.size,7,none⟩=some (int i64 d3):=by go_simp
 have n:(w.alloc (.cells #[int i64 site,int i64 seq,int i64 wall,int i64 count,int i64 d0,int i64 d1,int i64 d2,int i64 d3,.slice a l.length cap] 80)).cell? ⟨w.heap.size,8,none⟩=some (.slice a l.length cap):=by go_simp
 replace c0:=Later.cell c0;replace c1:=Later.cell c1;replace c2:=Later.cell c2;replace c3:=Later.cell c3;replace j:=Later.cell j;replace k:=Later.cell k;replace c6:=Later.cell c6;replace m:=Later.cell m;replace n:=Later.cell n;cases p1:inB site 0 3
 ·rw[show qc7 site seq wall count d0 d1 d2 d3 l=false by simp[qc7,p1]];go_enter func115,ntmps115
  go_wp2_with fail
  refine qaa (by kernel_rfl) (by kernel_rfl) ?_
  repeat (go_big_quiet_step (first|(go_at_call 30;with_reducible exact qab (qa1 p1 _))|(go_at_call 30;with_reducible exact qab (qa1 p2 _))|(go_at_call 140;with_reducible exact qab (qa8 p3 _))|(go_at_call 131;with_reducible exact qab (qaq p4 _))|(go_at_call 130;exact qab (qa0 (qat.later (Later.below _) d)))))
  refine wpQuiet_nil ?_;rintro g ⟨⟨_,c⟩,rfl⟩
  go_wp2
  go_ret;exact⟨rfl,qac (boxed (Below.refl _ _) _) c⟩
 ·cases p2:inB seq 1 1099511627776
  ·rw[show qc7 site seq wall count d0 d1 d2 d3 l=false by simp[qc7,p2]];go_enter func115,ntmps115
   go_wp2_with fail
   refine qaa (by kernel_rfl) (by kernel_rfl) ?_
   repeat (go_big_quiet_step (first|(go_at_call 30;with_reducible exact qab (qa1 p1 _))|(go_at_call 30;with_reducible exact qab (qa1 p2 _))|(go_at_call 140;with_reducible exact qab (qa8 p3 _))|(go_at_call 131;with_reducible exact qab (qaq p4 _))|(go_at_call 130;exact qab (qa0 (qat.later (Later.below _) d)))))
   refine wpQuiet_nil ?_;rintro g ⟨⟨_,c⟩,rfl⟩
   go_wp2
   go_ret;exact⟨rfl,qac (boxed (Below.refl _ _) _) c⟩
  ·cases p3:(qai wall&&qai count)
   ·rw[show qc7 site seq wall count d0 d1 d2 d3 l=false by simp only[qc7,p3,Bool.and_false,Bool.false_and]];go_enter func115,ntmps115
    go_wp2_with fail
    refine qaa (by kernel_rfl) (by kernel_rfl) ?_
    repeat (go_big_quiet_step (first|(go_at_call 30;with_reducible exact qab (qa1 p1 _))|(go_at_call 30;with_reducible exact qab (qa1 p2 _))|(go_at_call 140;with_reducible exact qab (qa8 p3 _))|(go_at_call 131;with_reducible exact qab (qaq p4 _))|(go_at_call 130;exact qab (qa0 (qat.later (Later.below _) d)))))
    refine wpQuiet_nil ?_;rintro g ⟨⟨_,c⟩,rfl⟩
    go_wp2
    go_ret;exact⟨rfl,qac (boxed (Below.refl _ _) _) c⟩
   ·cases p4:qau d0 d1 d2 d3
    ·rw[show qc7 site seq wall count d0 d1 d2 d3 l=false by simp only[qc7,p4,Bool.and_false,Bool.false_and]];go_enter func115,ntmps115
     go_wp2_with fail
     refine qaa (by kernel_rfl) (by kernel_rfl) ?_
     repeat (go_big_quiet_step (first|(go_at_call 30;with_reducible exact qab (qa1 p1 _))|(go_at_call 30;with_reducible exact qab (qa1 p2 _))|(go_at_call 140;with_reducible exact qab (qa8 p3 _))|(go_at_call 131;with_reducible exact qab (qaq p4 _))|(go_at_call 130;exact qab (qa0 (qat.later (Later.below _) d)))))
     refine wpQuiet_nil ?_;rintro g ⟨⟨_,c⟩,rfl⟩
     go_wp2
     go_ret;exact⟨rfl,qac (boxed (Below.refl _ _) _) c⟩
    ·have o:=qa5.1 p1;have p:=qa5.1 p2
     have e:qc7 site seq wall count d0 d1 d2 d3 l=(decide (qao site d0 d1 d2 d3=seq-1)&&qd7 l):=by simp only[qc7,p1,p2,p3,p4,Bool.and_true,Bool.true_and]
     rw[e];clear e
     have q:site=0\/site=1\/site=2\/site=3:=by omega
     obtain⟨s,u⟩:=p;clear o;rcases q with rfl|rfl|rfl|rfl
     ·by_cases b:d0=seq-1
      ·have h:(d0==seq-1)=true:=by simp[b]
       rw[show (decide (qao 0 d0 d1 d2 d3=seq-1)&&qd7 l)=qd7 l by simp[qao,b]];clear b;go_enter func115,ntmps115
       go_wp2_with fail
       refine qaa (by kernel_rfl) (by kernel_rfl) ?_
       repeat (go_big_quiet_step (first|(go_at_call 30;with_reducible exact qab (qa1 p1 _))|(go_at_call 30;with_reducible exact qab (qa1 p2 _))|(go_at_call 140;with_reducible exact qab (qa8 p3 _))|(go_at_call 131;with_reducible exact qab (qaq p4 _))|(go_at_call 130;exact qab (qa0 (qat.later (Later.below _) d)))))
       refine wpQuiet_nil ?_;rintro g ⟨⟨_,c⟩,rfl⟩
       go_wp2
       go_ret;exact⟨rfl,qac (boxed (Below.refl _ _) _) c⟩
      ·have h:(d0==seq-1)=false:=by simp[b]
       rw[show (decide (qao 0 d0 d1 d2 d3=seq-1)&&qd7 l)=false by simp[qao,b]];clear b;go_enter func115,ntmps115
       go_wp2_with fail
       refine qaa (by kernel_rfl) (by kernel_rfl) ?_
       repeat (go_big_quiet_step (first|(go_at_call 30;with_reducible exact qab (qa1 p1 _))|(go_at_call 30;with_reducible exact qab (qa1 p2 _))|(go_at_call 140;with_reducible exact qab (qa8 p3 _))|(go_at_call 131;with_reducible exact qab (qaq p4 _))|(go_at_call 130;exact qab (qa0 (qat.later (Later.below _) d)))))
       refine wpQuiet_nil ?_;rintro g ⟨⟨_,c⟩,rfl⟩
       go_wp2
       go_ret;exact⟨rfl,qac (boxed (Below.refl _ _) _) c⟩
     ·by_cases b:d1=seq-1
      ·have h:(d1==seq-1)=true:=by simp[b]
       rw[show (decide (qao 1 d0 d1 d2 d3=seq-1)&&qd7 l)=qd7 l by simp[qao,b]];clear b;go_enter func115,ntmps115
       go_wp2_with fail
       refine qaa (by kernel_rfl) (by kernel_rfl) ?_
       repeat (go_big_quiet_step (first|(go_at_call 30;with_reducible exact qab (qa1 p1 _))|(go_at_call 30;with_reducible exact qab (qa1 p2 _))|(go_at_call 140;with_reducible exact qab (qa8 p3 _))|(go_at_call 131;with_reducible exact qab (qaq p4 _))|(go_at_call 130;exact qab (qa0 (qat.later (Later.below _) d)))))
       refine wpQuiet_nil ?_;rintro g ⟨⟨_,c⟩,rfl⟩
       go_wp2
       go_ret;exact⟨rfl,qac (boxed (Below.refl _ _) _) c⟩
      ·have h:(d1==seq-1)=false:=by simp[b]
       rw[show (decide (qao 1 d0 d1 d2 d3=seq-1)&&qd7 l)=false by simp[qao,b]];clear b;go_enter func115,ntmps115
       go_wp2_with fail
       refine qaa (by kernel_rfl) (by kernel_rfl) ?_
       repeat (go_big_quiet_step (first|(go_at_call 30;with_reducible exact qab (qa1 p1 _))|(go_at_call 30;with_reducible exact qab (qa1 p2 _))|(go_at_call 140;with_reducible exact qab (qa8 p3 _))|(go_at_call 131;with_reducible exact qab (qaq p4 _))|(go_at_call 130;exact qab (qa0 (qat.later (Later.below _) d)))))
       refine wpQuiet_nil ?_;rintro g ⟨⟨_,c⟩,rfl⟩
       go_wp2
       go_ret;exact⟨rfl,qac (boxed (Below.refl _ _) _) c⟩
     ·by_cases b:d2=seq-1
      ·have h:(d2==seq-1)=true:=by simp[b]
       rw[show (decide (qao 2 d0 d1 d2 d3=seq-1)&&qd7 l)=qd7 l by simp[qao,b]];clear b;go_enter func115,ntmps115
       go_wp2_with fail
       refine qaa (by kernel_rfl) (by kernel_rfl) ?_
       repeat (go_big_quiet_step (first|(go_at_call 30;with_reducible exact qab (qa1 p1 _))|(go_at_call 30;with_reducible exact qab (qa1 p2 _))|(go_at_call 140;with_reducible exact qab (qa8 p3 _))|(go_at_call 131;with_reducible exact qab (qaq p4 _))|(go_at_call 130;exact qab (qa0 (qat.later (Later.below _) d)))))
       refine wpQuiet_nil ?_;rintro g ⟨⟨_,c⟩,rfl⟩
       go_wp2
       go_ret;exact⟨rfl,qac (boxed (Below.refl _ _) _) c⟩
      ·have h:(d2==seq-1)=false:=by simp[b]
       rw[show (decide (qao 2 d0 d1 d2 d3=seq-1)&&qd7 l)=false by simp[qao,b]];clear b;go_enter func115,ntmps115
       go_wp2_with fail
       refine qaa (by kernel_rfl) (by kernel_rfl) ?_
       repeat (go_big_quiet_step (first|(go_at_call 30;with_reducible exact qab (qa1 p1 _))|(go_at_call 30;with_reducible exact qab (qa1 p2 _))|(go_at_call 140;with_reducible exact qab (qa8 p3 _))|(go_at_call 131;with_reducible exact qab (qaq p4 _))|(go_at_call 130;exact qab (qa0 (qat.later (Later.below _) d)))))
       refine wpQuiet_nil ?_;rintro g ⟨⟨_,c⟩,rfl⟩
       go_wp2
       go_ret;exact⟨rfl,qac (boxed (Below.refl _ _) _) c⟩
     ·by_cases b:d3=seq-1
      ·have h:(d3==seq-1)=true:=by simp[b]
       rw[show (decide (qao 3 d0 d1 d2 d3=seq-1)&&qd7 l)=qd7 l by simp[qao,b]];clear b;go_enter func115,ntmps115
       go_wp2_with fail
       refine qaa (by kernel_rfl) (by kernel_rfl) ?_
       repeat (go_big_quiet_step (first|(go_at_call 30;with_reducible exact qab (qa1 p1 _))|(go_at_call 30;with_reducible exact qab (qa1 p2 _))|(go_at_call 140;with_reducible exact qab (qa8 p3 _))|(go_at_call 131;with_reducible exact qab (qaq p4 _))|(go_at_call 130;exact qab (qa0 (qat.later (Later.below _) d)))))
       refine wpQuiet_nil ?_;rintro g ⟨⟨_,c⟩,rfl⟩
       go_wp2
       go_ret;exact⟨rfl,qac (boxed (Below.refl _ _) _) c⟩
      ·have h:(d3==seq-1)=false:=by simp[b]
       rw[show (decide (qao 3 d0 d1 d2 d3=seq-1)&&qd7 l)=false by simp[qao,b]];clear b;go_enter func115,ntmps115
       go_wp2_with fail
       refine qaa (by kernel_rfl) (by kernel_rfl) ?_
       repeat (go_big_quiet_step (first|(go_at_call 30;with_reducible exact qab (qa1 p1 _))|(go_at_call 30;with_reducible exact qab (qa1 p2 _))|(go_at_call 140;with_reducible exact qab (qa8 p3 _))|(go_at_call 131;with_reducible exact qab (qaq p4 _))|(go_at_call 130;exact qab (qa0 (qat.later (Later.below _) d)))))
       refine wpQuiet_nil ?_;rintro g ⟨⟨_,c⟩,rfl⟩
       go_wp2
       go_ret;exact⟨rfl,qac (boxed (Below.refl _ _) _) c⟩
end
section
def qfr (w:World) (F:Nat->Option Obj) (log:List TxM):Prop:=∀k o,F k=some o->w.heap[k]?=some o/\∃m∈log,m.blk k
variable {w w':World} {F:Nat->Option Obj}
theorem qfr.to {log a:List TxM} (h:qfr w F log) (f:∀m∈log,∀k,m.blk k->w'.heap[k]?=w.heap[k]?) (g:∀m∈log,m∈a):qfr w' F a:=λk o e=>by
 obtain⟨i,m,c,d⟩:=h k o e;exact⟨(f m c k d).trans i,m,g m c,d⟩
variable {b:Nat} {lv wv sv:Value} {S:qaf}
theorem qfr.touch {log a waits:List TxM} (h:qfr w F log) (c:qc6 w b lv wv sv S log waits) (d:qae (qap b lv wv sv) w w') (f:∀m∈log,m∈a):qfr w' F a:=
 h.to (λm g k e=>have q:=c.hold m (List.mem_append.2 (.inl g));d.block k (q.1.blk_lt k e) (q.2 k e)) f
theorem qfr.later {log waits:List TxM} (h:qfr w F log) (a:qc6 w b lv wv sv S log waits) (hb:Below w.heap.size w w'):qfr w' F log:=h.touch a (qae.ofBelow hb) (λ_ c=>c)
def RS (w:World) (b:Nat) (G:Nat->Prop) (F:Nat->Option Obj) (S:qaf):Prop:=
 ∃lv wv sv log waits,qc6 w b lv wv sv S log waits/\log.map (·.t)=S.log/\waits.map (·.t)=S.waits/\(∀k,G k↔(qap b lv wv sv k\/∃m∈log++waits,m.blk k))/\qfr w F log
variable {G:Nat->Prop}
theorem RS.lt (h:RS w b G F S):∀k,G k->k<w.heap.size:=by
 obtain⟨lv,wv,sv,log,waits,h,_,_,c,_⟩:=h;intro k d;rcases(c k).1 d with a|⟨m,e,a⟩
 ·exact h.lt k a
 ·exact(h.hold m e).1.blk_lt k a
theorem RS.kept (h:RS w b G F S) (d:∀k,G k->w'.heap[k]?=w.heap[k]?) (f:w.heap.size<=w'.heap.size):RS w' b G F S:=by
 obtain⟨lv,wv,sv,log,waits,h,g,i,a,j⟩:=h;exact⟨lv,wv,sv,log,waits,h.keptB (λk e=>d k ((a k).2 e)) f,g,i,a,j.to (λm c k e=>d k ((a k).2 (.inr ⟨m,List.mem_append.2 (.inl c),e⟩))) (λ_ c=>c)⟩
theorem RS.later (h:RS w b G F S) (hb:Below w.heap.size w w'):RS w' b G F S:=h.kept (λk a=>hb.block k (h.lt k a)) hb.size
def RPo (w:World) (b:Nat) (G:Nat->Prop) (F:Nat->Option Obj) (S':qaf) (w':World):Prop:=∃G',RS w' b G' F S'/\(∀k,G' k->G k\/w.heap.size<=k)/\qae G w w'
variable {S':qaf}
theorem RPo.trans {a w2:World} {c:Nat->Prop} (d:∀k,c k->G k\/w.heap.size<=k) (e:qae G w a) (h:RPo a b c F S' w2):RPo w b G F S' w2:=by
 obtain⟨g,i,j,l⟩:=h;refine⟨g,i,λk m=>?_,e.more l d⟩;rcases j k m with f|f
 ·exact d k f
 ·exact .inr (by have:=e.size;omega)
theorem RPo.same (h:RS w b G F S) (hb:Below w.heap.size w w'):RPo w b G F S w':=⟨G,h.later hb,λ_ a=>.inl a,qae.ofBelow hb⟩
theorem qc6.rewait {c:Value} {log waits g:List TxM} (h:qc6 w b lv wv sv S log waits) (d:∀k,(qap b lv wv sv k\/∃m∈log++waits,m.blk k)->k≠b->wv.ownBlock≠some k->w'.heap[k]?=w.heap[k]?) (v:qag w' b (qcf S' lv c sv)) (r:S'.l=S.l)
 (y:w'.ownsRow 0 80 9 c g.length (qef g)) (i:∀k,c.ownBlock=some k->w.heap.size<=k) (z:∀m∈g,m∈waits\/(qat w' m.wa m.wc m.t.ws/\∀k,m.blk k->¬qap b lv wv sv k/\c.ownBlock≠some k)):qc6 w' b lv c sv S' log g:=by
 have s:∀k,qap b lv c sv k->qap b lv wv sv k\/c.ownBlock=some k:=λk d=>by
  rcases d with a|a|a|a
  ·exact .inl (.inl a)
  ·exact .inl (.inr (.inl a))
  ·exact .inr a
  ·exact .inl (.inr (.inr (.inr a)))
 have u:∀m∈log++waits,qat w' m.wa m.wc m.t.ws/\∀k,m.blk k->¬qap b lv c sv k:=λm j=>by
  have q:=h.hold m j;refine⟨q.1.kept (λk e=>d k (.inr ⟨m,j,e⟩) (λx=>q.2 k e (.inl x)) (λx=>q.2 k e (.inr (.inr (.inl x))))),λk e n=>?_⟩;rcases s k n with a|a
  ·exact q.2 k e a
  ·have:=i k a;have:=q.1.blk_lt k e;omega
 refine⟨v,qad h.rlog (λk e=>d k (.inl (.inr (.inl e))) (λx=>h.nl (by rw[<-x];exact e)) (h.lw k e)),y,by rw[r];exact qad h.own (λk e=>d k (.inl (.inr (.inr (.inr e)))) (λx=>h.ns (by rw[<-x];exact e)) (λx=>h.ws k x e)),by rw[r];exact h.ok,h.nl,λe=>?_,h.ns,λk e o=>?_,h.ls,λk e o=>?_,λm j=>?_⟩
 ·have:=i b e;have:=h.box.lt;omega
 ·have:=i k o;have:=(h.rlog.lt k e).2;omega
 ·have:=i k e;have:=(h.own.lt k o).2;omega
 ·rcases List.mem_append.1 j with a|a
  ·exact u m (List.mem_append.2 (.inl a))
  ·rcases z m a with f|f
   ·exact u m (List.mem_append.2 (.inr f))
   ·refine⟨f.1,λk e n=>?_⟩;rcases s k n with p|p
    ·exact(f.2 k e).1 p
    ·exact(f.2 k e).2 p
end
section
open Go.Value Go.IntKind
theorem qnr (a0 a1 a2 a3 b c d g:Int) (w:World):
 Calls Tryz.prog 80 #[.agg #[int i64 a0,int i64 a1,int i64 a2,int i64 a3],.agg #[int i64 b,int i64 c,int i64 d,int i64 g]] w λe w'=>e=.returned (.agg #[int i64 (qb1 a0 b),int i64 (qb1 a1 c),int i64 (qb1 a2 d),int i64 (qb1 a3 g)])/\Below w.heap.size w w':=by
 have o:=Later.one;go_enter Tryz.func80,Tryz.ntmps80
 go_wp2
 go_loopw [6] (λi wr=>∃(k:Nat) (z:Int),k<=4/\z=k/\i=int i64 z/\Below w.heap.size w wr/\qbe wr w.heap.size (if 0<k then qb1 a0 b else a0) (if 1<k then qb1 a1 c else a1) (if 2<k then qb1 a2 d else a2) (if 3<k then qb1 a3 g else a3)/\qbe wr (w.heap.size+1) b c d g/\qbe wr (w.heap.size+1+1) 0 0 0 0) (λi _=>4-(intOf i).toNat)
 case atStart=>
  have x:=qbe.new w 47 a0 a1 a2 a3;have y:=qbe.new (w.alloc (.cells #[int i64 a0,int i64 a1,int i64 a2,int i64 a3] 47)) 47 b c d g;have z:=qbe.new ((w.alloc (.cells #[int i64 a0,int i64 a1,int i64 a2,int i64 a3] 47)).alloc (.cells #[int i64 b,int i64 c,int i64 d,int i64 g] 47)) 47 0 0 0 0;simp only[World.size_alloc]at y z;exact⟨0,0,by omega,rfl,rfl,boxed (boxed (boxed (Below.refl _ _) _) _) _,(x.later (boxed (Below.refl _ _) _)).later (boxed (Below.refl _ _) _),y.later (boxed (Below.refl _ _) _),z⟩
 case round=>
  obtain⟨k,z,m,l,rfl,hb,A,B,R⟩:=hrel
  have n:k=0\/k=1\/k=2\/k=3\/k=4:=by omega
  clear m;rcases n with rfl|rfl|rfl|rfl|rfl
  all_goals simp only[Nat.lt_irrefl,Nat.not_lt_zero,if_true,if_false,Nat.reduceLT]at A
  ·obtain rfl:z=0:=by omega
   clear l
   go_wp2
   have c0:=Later.cell A.c0;have c1:=Later.cell B.c0;by_cases h:a0<b
   ·refine qaa (by kernel_rfl) (by kernel_rfl) ?_
    repeat (go_big_quiet_step (fail))
    refine wpQuiet_nil ?_;rintro j ⟨⟨_,a⟩,rfl⟩;replace A:=A.later a;replace B:=B.later a;replace R:=R.later a;clear c0 c1;have d0:=A.c0;have d1:=B.c0;have d2:=A.f0
    go_wp2
    go_roundw
    case rel=>exact⟨1,1,by omega,rfl,by go_num,(qac hb a).setCell (by simp) _,by simpa[qh2 h]using A.set0 b,B.far _ _ (by simp),R.far _ _ (by simp;omega)⟩
    case measure=>simp[intOf]
   ·refine qaa (by kernel_rfl) (by kernel_rfl) ?_
    repeat (go_big_quiet_step (fail))
    refine wpQuiet_nil ?_;rintro j ⟨⟨_,a⟩,rfl⟩;replace A:=A.later a;replace B:=B.later a;replace R:=R.later a;clear c0 c1
    go_wp2
    go_roundw
    case rel=>exact⟨1,1,by omega,rfl,by go_num,qac hb a,by simpa[qh0 h]using A,B,R⟩
    case measure=>simp[intOf]
  ·obtain rfl:z=1:=by omega
   clear l
   go_wp2
   have c0:=Later.cell A.c1;have c1:=Later.cell B.c1;by_cases h:a1<c
   ·refine qaa (by kernel_rfl) (by kernel_rfl) ?_
    repeat (go_big_quiet_step (fail))
    refine wpQuiet_nil ?_;rintro j ⟨⟨_,a⟩,rfl⟩;replace A:=A.later a;replace B:=B.later a;replace R:=R.later a;clear c0 c1;have d0:=A.c1;have d1:=B.c1;have d2:=A.f1
    go_wp2
    go_roundw
    case rel=>exact⟨2,2,by omega,rfl,by go_num,(qac hb a).setCell (by simp) _,by simpa[qh2 h]using A.set1 c,B.far _ _ (by simp),R.far _ _ (by simp;omega)⟩
    case measure=>simp[intOf]
   ·refine qaa (by kernel_rfl) (by kernel_rfl) ?_
    repeat (go_big_quiet_step (fail))
    refine wpQuiet_nil ?_;rintro j ⟨⟨_,a⟩,rfl⟩;replace A:=A.later a;replace B:=B.later a;replace R:=R.later a;clear c0 c1
    go_wp2
    go_roundw
    case rel=>exact⟨2,2,by omega,rfl,by go_num,qac hb a,by simpa[qh0 h]using A,B,R⟩
    case measure=>simp[intOf]
  ·obtain rfl:z=2:=by omega
   clear l
   go_wp2
   have c0:=Later.cell A.c2;have c1:=Later.cell B.c2;by_cases h:a2<d
   ·refine qaa (by kernel_rfl) (by kernel_rfl) ?_
    repeat (go_big_quiet_step (fail))
    refine wpQuiet_nil ?_;rintro j ⟨⟨_,a⟩,rfl⟩;replace A:=A.later a;replace B:=B.later a;replace R:=R.later a;clear c0 c1;have d0:=A.c2;have d1:=B.c2;have d2:=A.f2
    go_wp2
    go_roundw
    case rel=>exact⟨3,3,by omega,rfl,by go_num,(qac hb a).setCell (by simp) _,by simpa[qh2 h]using A.set2 d,B.far _ _ (by simp),R.far _ _ (by simp;omega)⟩
    case measure=>simp[intOf]
   ·refine qaa (by kernel_rfl) (by kernel_rfl) ?_
    repeat (go_big_quiet_step (fail))
    refine wpQuiet_nil ?_;rintro j ⟨⟨_,a⟩,rfl⟩;replace A:=A.later a;replace B:=B.later a;replace R:=R.later a;clear c0 c1
    go_wp2
    go_roundw
    case rel=>exact⟨3,3,by omega,rfl,by go_num,qac hb a,by simpa[qh0 h]using A,B,R⟩
    case measure=>simp[intOf]
  ·obtain rfl:z=3:=by omega
   clear l
   go_wp2
   have c0:=Later.cell A.c3;have c1:=Later.cell B.c3;by_cases h:a3<g
   ·refine qaa (by kernel_rfl) (by kernel_rfl) ?_
    repeat (go_big_quiet_step (fail))
    refine wpQuiet_nil ?_;rintro j ⟨⟨_,a⟩,rfl⟩;replace A:=A.later a;replace B:=B.later a;replace R:=R.later a;clear c0 c1;have d0:=A.c3;have d1:=B.c3;have d2:=A.f3
    go_wp2
    go_roundw
    case rel=>exact⟨4,4,by omega,rfl,by go_num,(qac hb a).setCell (by simp) _,by simpa[qh2 h]using A.set3 g,B.far _ _ (by simp),R.far _ _ (by simp;omega)⟩
    case measure=>simp[intOf]
   ·refine qaa (by kernel_rfl) (by kernel_rfl) ?_
    repeat (go_big_quiet_step (fail))
    refine wpQuiet_nil ?_;rintro j ⟨⟨_,a⟩,rfl⟩;replace A:=A.later a;replace B:=B.later a;replace R:=R.later a;clear c0 c1
    go_wp2
    go_roundw
    case rel=>exact⟨4,4,by omega,rfl,by go_num,qac hb a,by simpa[qh0 h]using A,B,R⟩
    case measure=>simp[intOf]
  ·obtain rfl:z=4:=by omega
   clear l;obtain⟨c0,c1,c2,c3,f0,f1,f2,f3⟩:=A;obtain⟨d0,d1,d2,d3,p,q,r,s⟩:=R
   go_wp2
   exact bodyPost_ret (v:=.agg #[int i64 (qb1 a0 b),int i64 (qb1 a1 c),int i64 (qb1 a2 d),int i64 (qb1 a3 g)]) (by simp[results,Tryz.results80,go_sem,d0,d1,d2,d3]) rfl ⟨rfl,(((hb.setCell (by simp;omega) _).setCell (by simp;omega) _).setCell (by simp;omega) _).setCell (by simp;omega) _⟩
theorem qgk (a0 a1 a2 a3 b c d g:Int) (w:World):
 Calls Tryz.prog 89 #[.agg #[int i64 a0,int i64 a1,int i64 a2,int i64 a3],.agg #[int i64 b,int i64 c,int i64 d,int i64 g]] w λe w'=>e=.returned (.agg #[int i64 (qaz a0 b),int i64 (qaz a1 c),int i64 (qaz a2 d),int i64 (qaz a3 g)])/\Below w.heap.size w w':=by
 have o:=Later.one;go_enter Tryz.func89,Tryz.ntmps89
 go_wp2
 go_loopw [6] (λi wr=>∃(k:Nat) (z:Int),k<=4/\z=k/\i=int i64 z/\Below w.heap.size w wr/\qbe wr w.heap.size (if 0<k then qaz a0 b else a0) (if 1<k then qaz a1 c else a1) (if 2<k then qaz a2 d else a2) (if 3<k then qaz a3 g else a3)/\qbe wr (w.heap.size+1) b c d g/\qbe wr (w.heap.size+1+1) 0 0 0 0) (λi _=>4-(intOf i).toNat)
 case atStart=>
  have x:=qbe.new w 47 a0 a1 a2 a3;have y:=qbe.new (w.alloc (.cells #[int i64 a0,int i64 a1,int i64 a2,int i64 a3] 47)) 47 b c d g;have z:=qbe.new ((w.alloc (.cells #[int i64 a0,int i64 a1,int i64 a2,int i64 a3] 47)).alloc (.cells #[int i64 b,int i64 c,int i64 d,int i64 g] 47)) 47 0 0 0 0;simp only[World.size_alloc]at y z;exact⟨0,0,by omega,rfl,rfl,boxed (boxed (boxed (Below.refl _ _) _) _) _,(x.later (boxed (Below.refl _ _) _)).later (boxed (Below.refl _ _) _),y.later (boxed (Below.refl _ _) _),z⟩
 case round=>
  obtain⟨k,z,m,l,rfl,hb,A,B,R⟩:=hrel
  have n:k=0\/k=1\/k=2\/k=3\/k=4:=by omega
  clear m;rcases n with rfl|rfl|rfl|rfl|rfl
  all_goals simp only[Nat.lt_irrefl,Nat.not_lt_zero,if_true,if_false,Nat.reduceLT]at A
  ·obtain rfl:z=0:=by omega
   clear l
   go_wp2
   have c0:=Later.cell A.c0;have c1:=Later.cell B.c0;by_cases h:b<a0
   ·refine qaa (by kernel_rfl) (by kernel_rfl) ?_
    repeat (go_big_quiet_step (fail))
    refine wpQuiet_nil ?_;rintro j ⟨⟨_,a⟩,rfl⟩;replace A:=A.later a;replace B:=B.later a;replace R:=R.later a;clear c0 c1;have d0:=A.c0;have d1:=B.c0;have d2:=A.f0
    go_wp2
    go_roundw
    case rel=>exact⟨1,1,by omega,rfl,by go_num,(qac hb a).setCell (by simp) _,by simpa[qj7 h]using A.set0 b,B.far _ _ (by simp),R.far _ _ (by simp;omega)⟩
    case measure=>simp[intOf]
   ·refine qaa (by kernel_rfl) (by kernel_rfl) ?_
    repeat (go_big_quiet_step (fail))
    refine wpQuiet_nil ?_;rintro j ⟨⟨_,a⟩,rfl⟩;replace A:=A.later a;replace B:=B.later a;replace R:=R.later a;clear c0 c1
    go_wp2
    go_roundw
    case rel=>exact⟨1,1,by omega,rfl,by go_num,qac hb a,by simpa[qkd h]using A,B,R⟩
    case measure=>simp[intOf]
  ·obtain rfl:z=1:=by omega
   clear l
   go_wp2
   have c0:=Later.cell A.c1;have c1:=Later.cell B.c1;by_cases h:c<a1
   ·refine qaa (by kernel_rfl) (by kernel_rfl) ?_
    repeat (go_big_quiet_step (fail))
    refine wpQuiet_nil ?_;rintro j ⟨⟨_,a⟩,rfl⟩;replace A:=A.later a;replace B:=B.later a;replace R:=R.later a;clear c0 c1;have d0:=A.c1;have d1:=B.c1;have d2:=A.f1
    go_wp2
    go_roundw
    case rel=>exact⟨2,2,by omega,rfl,by go_num,(qac hb a).setCell (by simp) _,by simpa[qj7 h]using A.set1 c,B.far _ _ (by simp),R.far _ _ (by simp;omega)⟩
    case measure=>simp[intOf]
   ·refine qaa (by kernel_rfl) (by kernel_rfl) ?_
    repeat (go_big_quiet_step (fail))
    refine wpQuiet_nil ?_;rintro j ⟨⟨_,a⟩,rfl⟩;replace A:=A.later a;replace B:=B.later a;replace R:=R.later a;clear c0 c1
    go_wp2
    go_roundw
    case rel=>exact⟨2,2,by omega,rfl,by go_num,qac hb a,by simpa[qkd h]using A,B,R⟩
    case measure=>simp[intOf]
  ·obtain rfl:z=2:=by omega
   clear l
   go_wp2
   have c0:=Later.cell A.c2;have c1:=Later.cell B.c2;by_cases h:d<a2
   ·refine qaa (by kernel_rfl) (by kernel_rfl) ?_
    repeat (go_big_quiet_step (fail))
    refine wpQuiet_nil ?_;rintro j ⟨⟨_,a⟩,rfl⟩;replace A:=A.later a;replace B:=B.later a;replace R:=R.later a;clear c0 c1;have d0:=A.c2;have d1:=B.c2;have d2:=A.f2
    go_wp2
    go_roundw
    case rel=>exact⟨3,3,by omega,rfl,by go_num,(qac hb a).setCell (by simp) _,by simpa[qj7 h]using A.set2 d,B.far _ _ (by simp),R.far _ _ (by simp;omega)⟩
    case measure=>simp[intOf]
   ·refine qaa (by kernel_rfl) (by kernel_rfl) ?_
    repeat (go_big_quiet_step (fail))
    refine wpQuiet_nil ?_;rintro j ⟨⟨_,a⟩,rfl⟩;replace A:=A.later a;replace B:=B.later a;replace R:=R.later a;clear c0 c1
    go_wp2
    go_roundw
    case rel=>exact⟨3,3,by omega,rfl,by go_num,qac hb a,by simpa[qkd h]using A,B,R⟩
    case measure=>simp[intOf]
  ·obtain rfl:z=3:=by omega
   clear l
   go_wp2
   have c0:=Later.cell A.c3;have c1:=Later.cell B.c3;by_cases h:g<a3
   ·refine qaa (by kernel_rfl) (by kernel_rfl) ?_
    repeat (go_big_quiet_step (fail))
    refine wpQuiet_nil ?_;rintro j ⟨⟨_,a⟩,rfl⟩;replace A:=A.later a;replace B:=B.later a;replace R:=R.later a;clear c0 c1;have d0:=A.c3;have d1:=B.c3;have d2:=A.f3
    go_wp2
    go_roundw
    case rel=>exact⟨4,4,by omega,rfl,by go_num,(qac hb a).setCell (by simp) _,by simpa[qj7 h]using A.set3 g,B.far _ _ (by simp),R.far _ _ (by simp;omega)⟩
    case measure=>simp[intOf]
   ·refine qaa (by kernel_rfl) (by kernel_rfl) ?_
    repeat (go_big_quiet_step (fail))
    refine wpQuiet_nil ?_;rintro j ⟨⟨_,a⟩,rfl⟩;replace A:=A.later a;replace B:=B.later a;replace R:=R.later a;clear c0 c1
    go_wp2
    go_roundw
    case rel=>exact⟨4,4,by omega,rfl,by go_num,qac hb a,by simpa[qkd h]using A,B,R⟩
    case measure=>simp[intOf]
  ·obtain rfl:z=4:=by omega
   clear l;obtain⟨c0,c1,c2,c3,f0,f1,f2,f3⟩:=A;obtain⟨d0,d1,d2,d3,p,q,r,s⟩:=R
   go_wp2
   exact bodyPost_ret (v:=.agg #[int i64 (qaz a0 b),int i64 (qaz a1 c),int i64 (qaz a2 d),int i64 (qaz a3 g)]) (by simp[results,Tryz.results89,go_sem,d0,d1,d2,d3]) rfl ⟨rfl,(((hb.setCell (by simp;omega) _).setCell (by simp;omega) _).setCell (by simp;omega) _).setCell (by simp;omega) _⟩
end
theorem qrl {b k:Nat} {wv:Value} {s:qbp} {G:Nat->Prop} {F:Nat->Option Obj} {S:qaf} (w:World) (h:qla w b wv s) (o:RS w k G F S) (p:¬G b):
 Calls Tryz.prog 32 #[.pointer (some ⟨b,0,none⟩),.pointer (some ⟨k,0,none⟩)] w λe w'=>e=.returned (.int .i64 (qn5 S s))/\qkh w b wv (qne S s) w':=by
 obtain⟨lv,y,sv,log,waits,M,_,_,i,_⟩:=o;have z:=Later.one;have nb:b≠k:=λe=>p ((i b).2 (.inl (.inl e)));have l:Hid _:=h;have q:Hid _:=M;have m:=h.box.cell 8 _ rfl;cases ho:s.opn
 ·have r:=Later.cell (h.box.cell 0 _ rfl);have t:=Later.cell (h.box.cell 1 _ rfl);have u:=Later.cell (h.box.cell 2 _ rfl);have v:=Later.cell (h.box.cell 3 _ rfl);have x1:=Later.cell (M.box.cell 1 _ rfl);have x2:=Later.cell (M.box.cell 2 _ rfl);have x3:=Later.cell (M.box.cell 3 _ rfl);have x:=Later.cell (M.box.cell 4 _ rfl);rw[ho]at m;have n:Hid _:=ho;cases hc:qe3 S.a0 S.a1 S.a2 S.a3 s.p0 s.p1 s.p2 s.p3
  ·have d:Hid _:=hc
   have c:Hid (qn5 S s=10):=by show _=_;unfold qn5;rw[n.out,d.out];rfl
   clear h M ho hc i;go_enter Tryz.func32,Tryz.ntmps32
   go_wp2_with fail
   refine qaa (by kernel_rfl) (by kernel_rfl) ?_
   repeat (go_big_quiet_step (first|rfl|(go_at_call 70;with_reducible exact qab (qbc d.out _))))
   refine wpQuiet_nil ?_;rintro w2 ⟨⟨_,g⟩,rfl⟩
   go_wp2_with fail
   go_ret;refine⟨by rw[c.out];rfl,?_⟩;rw[show qne S s=s by unfold qne;rw[if_neg (by rw[c.out];decide)]];exact qkh.same l.out g
  ·have d:Hid _:=hc
   have c:Hid (qn5 S s=0):=by show _=_;unfold qn5;rw[n.out,d.out];rfl
   clear h M ho hc i;go_enter Tryz.func32,Tryz.ntmps32
   go_wp2_with fail
   refine qaa (by kernel_rfl) (by kernel_rfl) ?_
   repeat (go_big_quiet_step (first|rfl|(go_at_call 70;with_reducible exact qab (qbc d.out _))))
   refine wpQuiet_nil ?_;rintro w2 ⟨⟨_,g⟩,rfl⟩;have a:=l.out.box.later g;have j:=q.out.box.later g;clear m r t u v x1 x2 x3 x;have B:=j.cell 1 _ rfl;have C:=j.cell 2 _ rfl;have D:=j.cell 3 _ rfl;have E:=j.cell 4 _ rfl;have H:=a.cell 4 _ rfl;have I:=a.cell 5 _ rfl;have J:=a.cell 6 _ rfl;have K:=a.cell 7 _ rfl;have L:=a.cell 8 _ rfl;have N:=a.cell 9 _ rfl;have O:=a.free 4 (by simp[qbl]);have P:=a.free 5 (by simp[qbl]);have Q:=a.free 6 (by simp[qbl]);have R:=a.free 7 (by simp[qbl]);have T:=a.free 8 (by simp[qbl]);have U:=a.free 9 (by simp[qbl])
   go_wp2_with fail
   go_ret;refine⟨by rw[c.out];rfl,?_⟩;rw[show qne S s={s with opn:=true,s0:=S.a0,s1:=S.a1,s2:=S.a2,s3:=S.a3,ws:=[]} by unfold qne;rw[if_pos c.out]];exact q4g g a S.a0 S.a1 S.a2 S.a3
 ·rw[ho]at m
  have c:Hid (qn5 S s=6):=by show _=_;unfold qn5;rw[ho];rfl
  clear h M ho i;go_enter Tryz.func32,Tryz.ntmps32
  go_wp2_with fail
  go_ret;refine⟨by rw[c.out];rfl,?_⟩;rw[show qne S s=s by unfold qne;rw[if_neg (by rw[c.out];decide)]];exact qkh.same l.out (Below.refl _ _)
section
variable {b:Nat} {G:Nat->Prop} {F:Nat->Option Obj} {S:qaf}
theorem qxh (key a0 a1 a2 a3:Int) (w:World) (h:RS w b G F S) (a:qcr S):
 Calls Tryz.prog 73 #[.pointer (some ⟨b,0,none⟩),.int .i64 key,.agg #[.int .i64 a0,.int .i64 a1,.int .i64 a2,.int .i64 a3]] w λe w'=>
  e=.returned (.tuple #[.agg (qah (qer S key a0 a1 a2 a3).1).toArray,.int .i64 (qer S key a0 a1 a2 a3).2])/\Below w.heap.size w w':=by
 obtain⟨lv,wv,sv,log,waits,h,_,_,_⟩:=h;exact qmc key a0 a1 a2 a3 w h (by have:=a.len;have:=a.log;omega)
theorem RS.of {w w':World} {lv wv sv g h i:Value} {S':qaf} {log waits a:List TxM} (o:a.map (·.t)=S'.log) (p:waits.map (·.t)=S'.waits) (f:∀k,G k↔(qap b lv wv sv k\/∃m∈log++waits,m.blk k)) (M:qc6 w' b g h i S' a waits) (q:∀k,qap b g h i k->qap b lv wv sv k\/w.heap.size<=k) (c:qae (qap b lv wv sv) w w')
 (r:qfr w' F a) (nl:∀m∈a,m∈log\/∀k,m.blk k->w.heap.size<=k):RPo w b G F S' w':=by
 refine⟨_,⟨g,h,i,a,waits,M,o,p,λk=>Iff.rfl,r⟩,λk j=>?_,⟨c.os,c.tape,c.output,c.size,λk j s=>c.block k j (λe=>s ((f k).2 (.inl e)))⟩⟩;rcases j with d|⟨m,u,d⟩
 ·exact(q k d).imp (λe=>(f k).2 (.inl e)) id
 ·rcases List.mem_append.1 u with l|l
  ·rcases nl m l with n|n
   ·exact .inl ((f k).2 (.inr ⟨m,List.mem_append.2 (.inl n),d⟩))
   ·exact .inr (n k d)
  ·exact .inl ((f k).2 (.inr ⟨m,List.mem_append.2 (.inr l),d⟩))
def q6d (F:Nat->Option Obj) (m:TxM) (F':Nat->Option Obj):Prop:=(∀k o,F k=some o->F' k=some o)/\∀k,m.blk k->∃o,F' k=some o
def qwz (w:World) (b:Nat) (G:Nat->Prop) (F:Nat->Option Obj) (S:qaf) (now d0 d1 d2 d3:Int) (ws:List Wr) (e:Ending) (w':World):Prop:=
 ∃m:TxM,e=.returned (.tuple #[txV m,.int .i64 (qk9 S now d0 d1 d2 d3 ws)])/\m.t=qna S now d0 d1 d2 d3 ws/\Hid (qat w' m.wa m.wc m.t.ws/\∃F',q6d F m F'/\RPo w b G F' (qkq S now d0 d1 d2 d3 ws) w')/\∀k,m.blk k->w.heap.size<=k
theorem qsv (now d0 d1 d2 d3:Int) {a:Option Addr} {cap:Nat} {ws:List Wr} (w:World) (h:RS w b G F S) (C:qcr S) (t:qat w a cap ws) (D:∀k j,ws≠[]->a=some ⟨k,j,none⟩->¬G k):
 Calls Tryz.prog 107 #[.pointer (some ⟨b,0,none⟩),.int .i64 now,.agg #[.int .i64 d0,.int .i64 d1,.int .i64 d2,.int .i64 d3],.slice a ws.length cap] w (qwz w b G F S now d0 d1 d2 d3 ws):=by
 have E:=h;obtain⟨lv,wv,sv,log,waits,i,u,H,v,y⟩:=h
 have z:log.length=S.log.length:=by rw[<-u];simp
 have l:qay S log.length now d0 d1 d2 d3 ws=qk9 S now d0 d1 d2 d3 ws:=by rw[z];rfl
 by_cases g:qay S log.length now d0 d1 d2 d3 ws=0
 ·have d:qk9 S now d0 d1 d2 d3 ws=0:=by rw[<-l];exact g
  refine(qpa now d0 d1 d2 d3 w i C z t (λk j I J K=>D k j I J ((v k).2 (.inl K))) g).mono λe w' n=>?_;obtain⟨wa,wc,R,T,p,M,L,B,q⟩:=n
  ·refine⟨⟨qbt S now d0 d1 d2 d3 ws,wa,wc⟩,by rw[p,d];rfl,by unfold qna;rw[if_pos d],⟨(M.hold _ (List.mem_append.2 (.inl (List.mem_append.2 (.inr (List.mem_singleton.2 rfl)))))).1,?_⟩,q⟩;have N:=(M.hold _ (List.mem_append.2 (.inl (List.mem_append.2 (.inr (List.mem_singleton.2 rfl)))))).1
   have hold:∀k o,F k=some o->¬(⟨qbt S now d0 d1 d2 d3 ws,wa,wc⟩:TxM).blk k:=λk o e c=>by
        obtain⟨_,m,r,O⟩:=y k o e;have:=(i.hold m (List.mem_append.2 (.inl r))).1.blk_lt k O;have:=q k c;omega
   classical
   refine⟨λk=>if (⟨qbt S now d0 d1 d2 d3 ws,wa,wc⟩:TxM).blk k then w'.heap[k]?else F k,⟨λk o e=>by simp only;rw[if_neg (hold k o e)];exact e,λk c=>⟨w'.heap[k]'(N.blk_lt k c),by simp only;rw[if_pos c];exact Array.getElem?_eq_getElem _⟩⟩,?_⟩;unfold qkq;rw[if_pos d];refine RS.of (by rw[List.map_append,u];rfl) H v M L B (λk o e=>?_) (λm r=>?_)
   ·by_cases c:(⟨qbt S now d0 d1 d2 d3 ws,wa,wc⟩:TxM).blk k
    ·rw[if_pos c]at e;exact⟨e,_,List.mem_append.2 (.inr (List.mem_singleton.2 rfl)),c⟩
    ·rw[if_neg c]at e;exact y.touch i B (λx P=>List.mem_append.2 (.inl P)) k o e
   rcases List.mem_append.1 r with s|s
   ·exact .inl s
   ·rw[List.mem_singleton.1 s];exact .inr q
 ·have d:qk9 S now d0 d1 d2 d3 ws≠0:=by rw[<-l];exact g
  refine(qqp now d0 d1 d2 d3 w i t g).mono λe w' n=>?_;rcases n with ⟨_,p,hb⟩|⟨Q,_⟩
  ·refine⟨tx0,by rw[p,l];rfl,by unfold qna;rw[if_neg d];rfl,⟨⟨Nat.le_refl _,by decide,.inl rfl⟩,?_⟩,λk c=>absurd rfl c.1⟩;refine⟨F,⟨λ_ _ e=>e,λk c=>absurd rfl c.1⟩,?_⟩;unfold qkq;rw[if_neg d];exact RPo.same E hb
  ·exact absurd Q g
end
section
def qgx (b:Nat) (F:Nat->Option Obj) (S:qaf):qm0:=⟨λw G=>RS w b G F S,λ_ _ h=>h.lt,λ_ _ _ h=>h.kept⟩
def RSe (w:World) (b:Nat) (G:Nat->Prop) (s:qbp):Prop:=∃wv,qla w b wv s/\∀k,G k↔(k=b\/wv.ownBlock=some k)
variable {w:World} {b:Nat} {G:Nat->Prop} {s:qbp}
theorem RSe.lt (h:RSe w b G s):∀k,G k->k<w.heap.size:=by
 obtain⟨wv,h,a⟩:=h;intro k c;rcases(a k).1 c with e|e
 ·rw[e];exact h.box.lt
 ·exact(h.row.lt k e).2
variable {w':World}
theorem RSe.kept (h:RSe w b G s) (c:∀k,G k->w'.heap[k]?=w.heap[k]?) (d:w.heap.size<=w'.heap.size):RSe w' b G s:=by
 obtain⟨wv,h,a⟩:=h;exact⟨wv,⟨h.box.kept (c b ((a b).2 (.inl rfl))) d,qad h.row (λk e=>c k ((a k).2 (.inr e))),h.nb⟩,a⟩
def qqb (b:Nat) (s:qbp):qm0:=⟨λw G=>RSe w b G s,λ_ _ h=>h.lt,λ_ _ _ h=>h.kept⟩
theorem qkh.left {wv:Value} {g:qbp} (c:∀k,G k↔(k=b\/wv.ownBlock=some k)) (h:qkh w b wv g w'):qvh (qqb b g) w G w':=by
 obtain⟨i,j,l,a⟩:=h;refine⟨λk=>k=b\/i.ownBlock=some k,⟨i,j,λ_=>Iff.rfl⟩,λk d=>?_,⟨a.os,a.tape,a.output,a.size,λk d m=>a.block k d (λe=>m ((c k).2 e))⟩⟩;rcases d with e|e
 ·exact .inl ((c k).2 (.inl e))
 ·rcases l k e with f|f
  ·exact .inl ((c k).2 (.inr f))
  ·exact .inr f
theorem q4f (T:TypeId):RSe (w.alloc (.cells (qbl qg3 (.slice none 0 0)).toArray T)) w.heap.size (λk=>k=w.heap.size) qg3:=
 ⟨.slice none 0 0,⟨qag.new (w:=w) (T:=T) _ rfl,World.ownsRow_nil _ _ _ _,by simp[Value.ownBlock]⟩,λk=>⟨λh=>.inl h,λh=>by simpa[Value.ownBlock]using h⟩⟩
def q1f (w:World) (b bx:Nat) (G Gx:Nat->Prop) (F:Nat->Option Obj) (S:qaf) (s:qbp) (now:Int) (e:Ending) (w':World):Prop:=
 ∃m:TxM,e=.returned (.tuple #[txV m,.int .i64 (qe9 S s now)])/\m.t=qem S s now/\Hid (qat w' m.wa m.wc m.t.ws/\∃F',q6d F m F'/\qin (qqb b (qbf S s now)) (qgx bx F' (qd9 S s now)) w G Gx m.blk w')
end
def qi2 (bp:Nat->Nat) (n:Nat):List Value:=(List.range n).map (λi=>.pointer (some ⟨bp i,0,none⟩))
def qf9 (x:Nat->Int) (n:Nat):List Value:=(List.range n).map (λi=>.int .i64 (x i))
theorem qlb (x:Nat->Int) (n:Nat):(qf9 x n).length=n:=by simp[qf9]
variable {n i:Nat}
theorem qzs {bp:Nat->Nat} (a:i<n):(qi2 bp n)[i]?=some (.pointer (some ⟨bp i,0,none⟩)):=by
 unfold qi2;rw[List.getElem?_map,List.getElem?_range a];rfl
theorem qkx {x:Nat->Int} (a:i<n):(qf9 x n)[i]?=some (.int .i64 (x i)):=by
 unfold qf9;rw[List.getElem?_map,List.getElem?_range a];rfl
structure GrR where
 g:GrS
 wa:Option Addr
 wc:Nat
def grT:GrB->TxP
 |.tx t=>t
 |.ask ..=>tx0.t
def grA:GrB->Int×Int×Int×Int×Int
 |.tx _=>(0,0,0,0,0)
 |.ask s a0 a1 a2 a3=>(s,a0,a1,a2,a3)
def GrR.m (x:GrR):TxM:=⟨grT x.g.body,x.wa,x.wc⟩
def qc4 (x:GrR):List Value:=.int .i64 x.g.to::(txC x.m++[.int .i64 (grA x.g.body).1,.int .i64 (grA x.g.body).2.1,.int .i64 (grA x.g.body).2.2.1,.int .i64 (grA x.g.body).2.2.2.1,.int .i64 (grA x.g.body).2.2.2.2])
def qhb (l:List GrR):List Value:=l.flatMap qc4
theorem qd2 (x:GrR):(qc4 x).length=15:=rfl
theorem qrx (l:List GrR):(qhb l).length=l.length*15:=by
 induction l with
 |nil=>rfl
 |cons x l ih=>
  show (qc4 x++qhb l).length=_;rw[List.length_append,ih,qd2];simp;omega
theorem qyj (l:List GrR) (x:GrR):qhb (l++[x])=qhb l++qc4 x:=by simp[qhb]
theorem qx2:∀{l:List GrR} {i r:Nat} {x:GrR} {u:Value},l[i]?=some x->(qc4 x)[r]?=some u->(qhb l)[i*15+r]?=some u
 |[],i,r,x,u,h,_=>by simp at h
 |y::l,0,r,x,u,h,hu=>by
  have e:y=x:=by simpa using h
  subst e
  have a:r<15:=by have:=(List.getElem?_eq_some_iff.1 hu).1;rw[qd2]at this;exact this
  show (qc4 y++qhb l)[_]?=_;rw[Nat.zero_mul,Nat.zero_add,List.getElem?_append_left (by rw[qd2];exact a)];exact hu
 |y::l,i+1,r,x,u,h,hu=>by
  have c:l[i]?=some x:=by simpa using h
  show (qc4 y++qhb l)[_]?=_;rw[List.getElem?_append_right (by rw[qd2];omega),qd2,show (i+1)*15+r-15=i*15+r by omega];exact qx2 c hu
structure GrR.Ok (w:World) (n:Nat) (F:Nat->Nat->Option Obj) (x:GrR):Prop where
 wi:qat w x.m.wa x.m.wc x.m.t.ws
 fr:∀k,x.m.blk k->∃i o,i<n/\F i k=some o
 none:∀s a0 a1 a2 a3,x.g.body=.ask s a0 a1 a2 a3->x.wa=none/\x.wc=0
structure RoM where
 sv:Value
 wv:Value
 cv:Value
 av:Value
 yv:Value
 bp:Nat->Nat
 bs:Nat->Nat
 F:Nat->Nat->Option Obj
 l:List GrR
def qd5 (b:Nat) (M:RoM):List (Option Nat):=[some b,M.sv.ownBlock,M.wv.ownBlock,M.cv.ownBlock,M.av.ownBlock,M.yv.ownBlock]
def qav (b:Nat) (M:RoM) (k:Nat):Prop:=some k∈qd5 b M
def qeq (M:RoM) (W:WoS):Nat->qm0:=λi=>if i<W.n then qgx (M.bp i) (M.F i) (W.S i)else qqb (M.bs (i-W.n)) (W.ses (i-W.n))
structure RWo (w:World) (b:Nat) (M:RoM) (W:WoS) (Gs:Nat->Nat->Prop):Prop where
 box:qag w b [M.sv,M.wv,M.cv,M.av,M.yv,.int .i64 W.lost]
 sr:w.ownsRow 0 45 1 M.sv W.n (qi2 M.bp W.n)
 wr:w.ownsRow 0 3 1 M.wv W.n (qf9 W.wall W.n)
 cr:w.ownsRow 0 62 1 M.cv W.c (qi2 M.bs W.c)
 ar:w.ownsRow 0 3 1 M.av W.c (qf9 (λk=>(W.at_ k:Int)) W.c)
 yr:w.ownsRow 0 122 15 M.yv M.l.length (qhb M.l)
 nl:M.l.map (·.g)=W.net
 gr:∀x∈M.l,x.Ok w W.n M.F
 fam:qbx w (W.n+W.c) (qeq M W) Gs (qav b M) (W.n+W.c) NoY
 ap:(qd5 b M).Pairwise (λx y=>∀k,x=some k->y≠some k)
variable {k:Nat} {G:Nat->Prop} {F:Nat->Option Obj} {S:qaf} {o:Obj} {F':Nat->Nat->Option Obj} {x:GrR}
section
variable {w w':World} {b:Nat} {M:RoM} {W:WoS} {Gs:Nat->Nat->Prop}
theorem RWo.site (h:RWo w b M W Gs) (a:i<W.n):RS w (M.bp i) (Gs i) (M.F i) (W.S i):=by
 have:=h.fam.is i (by omega);unfold qeq at this;rw[if_pos a]at this;exact this
theorem RWo.sess (h:RWo w b M W Gs) (a:k<W.c):RSe w (M.bs k) (Gs (W.n+k)) (W.ses k):=by
 have:=h.fam.is (W.n+k) (by omega);unfold qeq at this;rw[if_neg (by omega),show W.n+k-W.n=k by omega]at this;exact this
theorem RS.frozen (h:RS w b G F S) (e:F k=some o):w.heap[k]?=some o:=by
 obtain⟨_,_,_,_,_,_,_,_,_,a⟩:=h;exact(a k o e).1
theorem RS.frozenG (h:RS w b G F S) (e:F k=some o):G k:=by
 obtain⟨_,_,_,log,_,_,_,_,a,c⟩:=h;obtain⟨_,m,d,f⟩:=c k o e;exact(a k).2 (.inr ⟨m,List.mem_append.2 (.inl d),f⟩)
theorem GrR.Ok.to {F:Nat->Nat->Option Obj} (h:x.Ok w n F) (d:∀i k o,i<n->F i k=some o->F' i k=some o/\w.heap[k]?=some o/\w'.heap[k]?=some o):x.Ok w' n F':=by
 refine⟨h.wi.kept (m:=x.m) (λk e=>?_),λk e=>?_,h.none⟩
 ·obtain⟨i,o,a,c⟩:=h.fr k e;have:=d i k o a c;rw[this.2.1,this.2.2]
 ·obtain⟨i,o,a,c⟩:=h.fr k e;exact⟨i,o,a,(d i k o a c).1⟩
theorem RWo.keep (h:RWo w b M W Gs) {a:WoS} {p:Nat->Nat->Prop} (d:qby (qav b M) w w') (r:qbx w' (W.n+W.c) (qeq {M with F:=F'} a) p (qav b M) (W.n+W.c) NoY) (s:∀i k o,i<W.n->M.F i k=some o->F' i k=some o) (g:a.n=W.n) (m:a.c=W.c) (t:a.wall=W.wall) (u:a.at_=W.at_) (v:a.net=W.net) (y:a.lost=W.lost):RWo w' b {M with F:=F'} a p:=by
 have f:∀{x:Option Nat},x∈qd5 b M->∀k,x=some k->qav b M k:=λj k e=>by rw[e]at j;exact j
 refine⟨?_,?_,?_,?_,?_,qad h.yr (λk e=>d.block k (f (x:=M.yv.ownBlock) (by simp[qd5]) k e)),by rw[v];exact h.nl,λx j=>?_,by rw[g,m];exact r,h.ap⟩
 ·rw[y];exact h.box.keeps d (f (x:=some b) (by simp[qd5]) b rfl)
 ·rw[g];exact qad h.sr (λk e=>d.block k (f (x:=M.sv.ownBlock) (by simp[qd5]) k e))
 ·rw[g,t];exact qad h.wr (λk e=>d.block k (f (x:=M.wv.ownBlock) (by simp[qd5]) k e))
 ·rw[m];exact qad h.cr (λk e=>d.block k (f (x:=M.cv.ownBlock) (by simp[qd5]) k e))
 ·rw[m,u];exact qad h.ar (λk e=>d.block k (f (x:=M.av.ownBlock) (by simp[qd5]) k e))
 ·rw[g];refine(h.gr x j).to (λi k o l e=>⟨s i k o l e,(h.site l).frozen e,?_⟩);have q:=r.is i (by omega);unfold qeq at q;rw[if_pos (by rw[g];exact l)]at q;exact RS.frozen q (s i k o l e)
end
def qli (b:Nat) (M:RoM) (N:Nat) (Gs:Nat->Nat->Prop) (k:Nat):Prop:=qav b M k\/∃i,i<N/\Gs i k
def RW (w:World) (b:Nat) (G:Nat->Prop) (W:WoS):Prop:=∃M Gs,RWo w b M W Gs/\∀k,G k↔qli b M (W.n+W.c) Gs k
section
variable {w w':World} {b:Nat} {G:Nat->Prop} {M:RoM} {W:WoS} {Gs:Nat->Nat->Prop}
theorem RWo.ltF (h:RWo w b M W Gs):∀k,qav b M k->k<w.heap.size:=λk a=>(h.fam.free k a).1
theorem RWo.ltG (h:RWo w b M W Gs) (a:i<W.n+W.c) (d:Gs i k):k<w.heap.size:=(qeq M W i).lt _ _ (h.fam.is i a) k d
theorem RW.lt (h:RW w b G W):∀k,G k->k<w.heap.size:=by
 obtain⟨M,Gs,h,a⟩:=h;intro k c;rcases(a k).1 c with q|⟨i,d,q⟩
 ·exact h.ltF k q
 ·exact h.ltG d q
theorem RW.kept (h:RW w b G W) (f:∀k,G k->w'.heap[k]?=w.heap[k]?) (g:w.heap.size<=w'.heap.size):RW w' b G W:=by
 obtain⟨M,Gs,h,c⟩:=h;have l:∀k,qav b M k->w'.heap[k]?=w.heap[k]?:=λk q=>f k ((c k).2 (.inl q))
 have a:∀{x:Option Nat},x∈qd5 b M->∀k,x=some k->w'.heap[k]?=w.heap[k]?:=λd k e=>by rw[e]at d;exact l k d
 refine⟨M,Gs,⟨h.box.kept (l b (by simp[qav,qd5])) g,qad h.sr (a (by simp[qd5])),qad h.wr (a (by simp[qd5])),qad h.cr (a (by simp[qd5])),qad h.ar (a (by simp[qd5])),qad h.yr (a (by simp[qd5])),h.nl,λx d=>(h.gr x d).to (λi k o m e=>?_),h.fam.to (λj k p e=>f k ((c k).2 (.inr ⟨j,p,e⟩))) g (λk e=>⟨.inl e,Nat.lt_of_lt_of_le (h.ltF k e) g⟩),h.ap⟩,c⟩;have:=(h.site m).frozen e;exact⟨e,this,(f k ((c k).2 (.inr ⟨i,by omega,(h.site m).frozenG e⟩))).trans this⟩
theorem RW.later (h:RW w b G W) (hb:Below w.heap.size w w'):RW w' b G W:=h.kept (λk a=>hb.block k (h.lt k a)) hb.size
end
def roP (b:Nat) (W:WoS):qm0:=⟨λw G=>RW w b G W,λ_ _ h=>h.lt,λ_ _ _ h=>h.kept⟩
def qgi (w:World) (b:Nat) (G:Nat->Prop) (W':WoS) (w':World):Prop:=qvh (roP b W') w G w'
section
variable {w w':World} {b:Nat} {G:Nat->Prop} {M:RoM} {W:WoS} {Gs:Nat->Nat->Prop}
theorem qgi.same (h:RW w b G W) (hb:Below w.heap.size w w'):qgi w b G W w':=⟨G,h.later hb,λ_ a=>.inl a,qae.ofBelow hb⟩
theorem RWo.stepS (h:RWo w b M W Gs) (d:∀k,G k↔qli b M (W.n+W.c) Gs k) (t:i<W.n) {S':qaf} (u:RPo w (M.bp i) (Gs i) (M.F i) S' w'):qgi w b G (setSite W i S') w':=by
 obtain⟨m,f,g,v,a⟩:=h.fam.stepG (ps':=qeq M (setSite W i S')) (i:=i) (by omega) (p:=qgx (M.bp i) (M.F i) S') u (by show (if i<W.n then _ else _)=_;rw[if_pos t];show qgx (M.bp i) (M.F i) (qb2 W.S i S' i)=_;rw[qal]) (λj s y=>by
  show (if j<W.n then qgx (M.bp j) (M.F j) (qb2 W.S i S' j)else _)=(if j<W.n then _ else _);rw[qbq _ _ y]
  rfl)
 refine⟨qli b M (W.n+W.c) m,⟨M,m,h.keep (F':=M.F) v f (λ_ _ _ _ e=>e) rfl rfl rfl rfl rfl rfl,λ_=>Iff.rfl⟩,λk l=>?_,⟨a.os,a.tape,a.output,a.size,λk l z=>a.block k l (λe=>z ((d k).2 (.inr ⟨i,by omega,e⟩)))⟩⟩;rcases l with q|⟨j,s,q⟩
 ·exact .inl ((d k).2 (.inl q))
 ·rcases g j k q with r|r
  ·exact .inl ((d k).2 (.inr ⟨j,s,r⟩))
  ·exact .inr r
theorem RWo.stepC (h:RWo w b M W Gs) (l:∀k,G k↔qli b M (W.n+W.c) Gs k) (z:i<W.c) {a:qbp} (u:qvh (qqb (M.bs i) a) w (Gs (W.n+i)) w'):qgi w b G (qb0 W i a) w':=by
 obtain⟨s,f,g,v,d⟩:=h.fam.stepG (ps':=qeq M (qb0 W i a)) (i:=W.n+i) (by omega) (p:=qqb (M.bs i) a) u (by show (if W.n+i<W.n then _ else _)=_;rw[if_neg (by omega)];show qqb (M.bs (W.n+i-W.n)) (qb2 W.ses i a (W.n+i-W.n))=_;rw[show W.n+i-W.n=i by omega,qal]) (λj t A=>by
  show (if j<W.n then _ else qqb (M.bs (j-W.n)) (qb2 W.ses i a (j-W.n)))=(if j<W.n then _ else _);by_cases q:j<W.n
  ·rw[if_pos q,if_pos q];rfl
  ·rw[if_neg q,if_neg q,qbq _ _ (by omega)])
 refine⟨qli b M (W.n+W.c) s,⟨M,s,h.keep (F':=M.F) v f (λ_ _ _ _ e=>e) rfl rfl rfl rfl rfl rfl,λ_=>Iff.rfl⟩,λk m=>?_,⟨d.os,d.tape,d.output,d.size,λk m y=>d.block k m (λe=>y ((l k).2 (.inr ⟨W.n+i,by omega,e⟩)))⟩⟩;rcases m with q|⟨j,t,q⟩
 ·exact .inl ((l k).2 (.inl q))
 ·rcases g j k q with r|r
  ·exact .inl ((l k).2 (.inr ⟨j,t,r⟩))
  ·exact .inr r
end
end Go.Proofs.YtemiamjnhoeniaaGreatDoor
