import Derived.Stop.Asserts
import Derived.Test.YtemiamjnhoeniaaGreatDoorSiteJ
set_option maxHeartbeats 8000000
set_option maxRecDepth 100000
namespace Go.Proofs.YtemiamjnhoeniaaGreatDoor
open Go.RowKit
section
open Tryz Go.Value Go.IntKind
variable {d:ByteArray}
theorem q5h (h:d.toList.isEmpty=false):d.size≠0:=λe=>by
 rw[qgz]at h;have:=qbb d;rw[e]at this;rw[List.length_eq_zero_iff.1 this]at h;cases h
theorem q4x (h:d.toList.isEmpty=true):d.size=0:=by
 rw[qgz,List.isEmpty_iff]at h;rw[<-qbb,h];rfl
variable {b:Nat} {s:qbp}
theorem qpd {w i j:World} {g c H:Nat} {a:Option Addr} {cap:Nat} {x:Wr} (h:qla w b (.slice a s.ws.length cap) s) (hb:Below w.heap.size w i) (n:j.ownsRow 0 34 3 (.slice (some ⟨g,0,none⟩) (s.ws.length+1) c) (s.ws.length+1) (qf4 s.ws++wrC x)) (gr:i.grownBy j (Value.slice a s.ws.length cap).ownBlock) (l:(Value.slice a s.ws.length cap).ownBlock=some g\/g=H) (q:i.heap.size<=H):
 qkh w b (.slice a s.ws.length cap) {s with ws:=s.ws++[x]} (j.setCell ⟨b,9,none⟩ (.slice (some ⟨g,0,none⟩) (s.ws.length+1) c)):=by
 have o:=h.box.later hb;have p:=o.grown gr (λe=>h.nb e.symm);have r:=h.box.lt
 have m:g≠b:=by
  rcases l with e|e
  ·intro f;rw[f]at e;exact h.nb e
  ·have:=hb.size;omega
 have R:=p.set 9 (.slice (some ⟨g,0,none⟩) (s.ws.length+1) c) (by simp[qbl]);refine⟨.slice (some ⟨g,0,none⟩) (s.ws.length+1) c,⟨R,?_,λe=>m (by simpa[Value.ownBlock]using e)⟩,λk e=>?_,?_⟩
 ·show World.ownsRow _ 0 _ 3 _ (s.ws++[x]).length (qf4 (s.ws++[x]));rw[qkf,List.length_append];refine qad n (λk e=>?_)
  have e:g=k:=by simpa[Value.ownBlock]using e
  rw[<-e];exact Below.heap_setCell _ _ _ _ m
 ·have e:g=k:=by simpa[Value.ownBlock]using e
  rw[<-e];rcases l with f|f
  ·exact .inl f
  ·exact .inr (by have:=hb.size;omega)
 ·exact((qae.ofBelow hb).trans (qae.grown gr (λk e=>.inr e))).trans (qae.setCell _ _ _ (.inl rfl))
theorem qp0 {wv:Value} (x:Wr) (w:World) (h:qla w b wv s) (hl:s.ws.length<=1000):
 Calls prog 35 #[.pointer (some ⟨b,0,none⟩),wrV x] w λe w'=>e=.returned (int i64 (qfi s x))/\qkh w b wv (qk2 s x) w':=by
 have NO:∀w9 ev,qfi s x=ev->ev≠0->Below w.heap.size w w9->Hid ((.returned (int i64 ev):Ending)=.returned (int i64 (qfi s x))/\qkh w b wv (qk2 s x) w9):=λw9 ev e1 e2 e3=>by
  show _/\_;rw[e1,show qk2 s x=s by unfold qk2;rw[if_neg (by rw[e1];exact e2)]];exact⟨rfl,qkh.same h e3⟩
 obtain⟨a,cap,rfl,hWi⟩:=qcw h.row;obtain⟨xk,xd,xg⟩:=x;have hb:=boxed (Below.refl _ w) (.cells #[int i64 xk,.string xd,.bool xg] 34);have V:=qag.new (w:=w) (T:=34) [int i64 xk,.string xd,.bool xg] rfl;change qag (w.alloc (.cells #[int i64 xk,.string xd,.bool xg] 34)) w.heap.size [int i64 xk,.string xd,.bool xg]at V;have HS:Hid _:=h;have HL:Hid _:=hl;have B:=h.box.later hb;have W:Hid _:=NO;clear NO hWi;show Calls prog 35 #[.pointer (some ⟨b,0,none⟩),.agg #[int i64 xk,.string xd,.bool xg]] w _;have k8:=B.cell 8 _ rfl;have x0:=V.cell 0 _ rfl;have x1:=V.cell 1 _ rfl;have x2:=V.cell 2 _ rfl;cases ho:s.opn
 ·rw[ho]at k8
  have E:qfi s ⟨xk,xd,xg⟩=6:=by unfold qfi;rw[if_pos ho]
  have q:=(W.out _ 6 E (by decide) hb).out;clear E ho B h V W hl;go_enter func35,ntmps35
  go_wp2_with fail
  go_ret;exact q
 ·rw[ho]at k8
  have n1:¬s.opn=false:=by rw[ho];decide
  have GO:Hid (∀c,Below (w.alloc (.cells #[int i64 xk,.string xd,.bool xg] 34)).heap.size (w.alloc (.cells #[int i64 xk,.string xd,.bool xg] 34)) c->qla c b (.slice a s.ws.length cap) s/\qag c w.heap.size [int i64 xk,.string xd,.bool xg]/\Below w.heap.size w c):=λc o=>⟨(HS.out.later hb).later o,V.later o,qac hb o⟩;cases hin:inB xk 0 7
  ·have X:xk<0\/8<=xk:=by
     simp only[inB,Bool.and_eq_false_iff,decide_eq_false_iff_not]at hin;omega
   have E:qfi s ⟨xk,xd,xg⟩=2:=by unfold qfi;rw[if_neg n1,if_pos X]
   have q:Hid (∀c,Below w.heap.size w c->(.returned (int i64 2):Ending)=.returned (int i64 (qfi s ⟨xk,xd,xg⟩))/\qkh w b (.slice a s.ws.length cap) (qk2 s ⟨xk,xd,xg⟩) c):=λc o=>(W.out _ 2 E (by decide) o).out;have IN:=qa1 hin (w.alloc (.cells #[int i64 xk,.string xd,.bool xg] 34));clear E ho B h V W hl n1 X hin;go_enter func35,ntmps35
   go_wp2_with fail
   refine IN.mono ?_;rintro e I ⟨rfl,J⟩;obtain⟨_,_,K⟩:=GO.out I J;clear k8 x0 x1 x2
   go_wp2_with fail
   go_ret;exact q.out _ K
  ·have X:¬(xk<0\/8<=xk):=by
     simp only[inB,Bool.and_eq_true,decide_eq_true_eq]at hin;omega
   have HK:Hid (0<=xk/\xk<8):=⟨by omega,by omega⟩;have IN:=qa1 hin (w.alloc (.cells #[int i64 xk,.string xd,.bool xg] 34));by_cases hlen:12<(xd.size:Int)
   ·have E:qfi s ⟨xk,xd,xg⟩=4:=by unfold qfi;rw[if_neg n1,if_neg X,if_pos (by show 12<xd.size;omega)]
    have q:Hid (∀c,Below w.heap.size w c->(.returned (int i64 4):Ending)=.returned (int i64 (qfi s ⟨xk,xd,xg⟩))/\qkh w b (.slice a s.ws.length cap) (qk2 s ⟨xk,xd,xg⟩) c):=λc o=>(W.out _ 4 E (by decide) o).out;clear E ho B h V W hl n1 X hin;go_enter func35,ntmps35
    go_wp2_with fail
    refine IN.mono ?_;rintro e I ⟨rfl,J⟩;obtain⟨_,k,K⟩:=GO.out I J;clear k8 x0 x1 x2;have C:=k.cell 1 _ rfl
    go_wp2_with fail
    go_ret;exact q.out _ K
   ·have n3:¬12<xd.size:=by omega
    cases hgg:(xg&&!xd.toList.isEmpty)
    ·have HT:Hid (¬(xg=true/\xd.size≠0)):=by
        show ¬_;rintro ⟨e1,e2⟩;rw[e1]at hgg;exact e2 (q4x (by simpa using hgg))
     have Z:Hid (∀c,qla c b (.slice a s.ws.length cap) s->Calls prog 72 #[.pointer (some ⟨b,0,none⟩),int i64 xk] c λe w'=>e=.returned (.tuple #[wrV (qdo s.ws xk),.bool (qe7 s.ws xk).isSome])/\Below c.heap.size c w'):=λc o=>qki xk c o;have ALL:Hid (∀c,qla c b (.slice a s.ws.length cap) s->Calls prog 74 #[.pointer (some ⟨b,0,none⟩)] c λe w'=>∃v,e=.returned v/\w'.ownsRow c.heap.size 34 3 v (qbs s.ws).length (qf4 (qbs s.ws))/\Below c.heap.size c w'):=λc o=>qoj c o;obtain⟨⟨ok,r,z⟩,hoo⟩:∃y,qdo s.ws xk=y:=⟨_,rfl⟩
     have Y:Hid (¬(qe7 s.ws xk=none/\5<=(qbs s.ws).length)->qfi s ⟨xk,xd,xg⟩=0/\qk2 s ⟨xk,xd,xg⟩={s with ws:=s.ws++[⟨xk,xd,xg⟩]}):=λhno=>by
        have E:qfi s ⟨xk,xd,xg⟩=0:=by unfold qfi;rw[if_neg n1,if_neg X,if_neg n3,if_neg HT.out,if_neg hno]
        exact⟨E,by unfold qk2;rw[if_pos E]⟩
     have HF2:Hid ((qe7 s.ws xk=none/\5<=(qbs s.ws).length)->qfi s ⟨xk,xd,xg⟩=12):=λhno=>by
        unfold qfi;rw[if_neg n1,if_neg X,if_neg n3,if_neg HT.out,if_pos hno]
     have q:Hid (∀c,qfi s ⟨xk,xd,xg⟩=12->Below w.heap.size w c->(.returned (int i64 12):Ending)=.returned (int i64 (qfi s ⟨xk,xd,xg⟩))/\qkh w b (.slice a s.ws.length cap) (qk2 s ⟨xk,xd,xg⟩) c):=λc E o=>(W.out _ 12 E (by decide) o).out;obtain⟨i0,hi,hz0,hz1,hz2⟩:=info_parts qmx;rw[hoo]at Z;clear ho B h V W hl n1 X n3 hin HT hoo;cases xg
     ·clear hgg;go_enter func35,ntmps35
      go_wp2_with fail
      refine IN.mono ?_;rintro e I ⟨rfl,J⟩;obtain⟨L,k,K⟩:=GO.out I J;clear k8 x0 x1 x2 IN GO J;have F:=k.cell 0 _ rfl;have C:=k.cell 1 _ rfl;have G:=k.cell 2 _ rfl;have H:=Z.out I L;cases hw:qe7 s.ws xk with
      |some y=>
       rw[hw,show (some y).isSome=true from rfl,show wrV ⟨ok,r,z⟩=.agg #[int i64 ok,.string r,.bool z]from rfl]at H;have M:Hid _:=Y.out (λe=>by rw[hw]at e;cases e.1);clear hw Z ALL q Y HF2
       go_wp2_with fail
       refine H.mono ?_;rintro e w2 ⟨rfl,N⟩;have l:=boxed N (.cells #[int i64 ok,.string r,.bool z] 34);have m:=L.later l;have n:=k.later l;have O:=qac K l;obtain⟨i,P⟩:∃i,w2.alloc (.cells #[int i64 ok,.string r,.bool z] 34)=i:=⟨_,rfl⟩;rw[P]at m n O;clear F C G H N L k l
       go_wp2_with (rw[P])
       have j:qla i.drew b (.slice a s.ws.length cap) s:=m.later ((Below.refl _ i).drew);have Q:=j.row;have hbl:b<i.heap.size:=j.box.lt;have hxl:w.heap.size<i.heap.size:=n.lt;have z9:=m.box.cell 9 _ rfl;have g9:=m.box.free 9 (by simp[qbl]);have F:=n.cell 0 _ rfl;have C:=n.cell 1 _ rfl;have G:=n.cell 2 _ rfl
       go_region_law (refine step_append_lies _ rfl (.tmp 46) (.tmp 48) 65 rfl 0 34 i0 (.agg #[int i64 0,.string ⟨#[]⟩,.bool false]) 3 32 underlying65 hi hz0 hz1 hz2 rfl (by decide) (.slice a s.ws.length cap) s.ws.length (qf4 s.ws) (by simp[Act.eval]) (Q.alloc _) ⟨i.heap.size,0,none⟩ 1 1 (wrC ⟨xk,xd,false⟩) (by simp[Act.eval]) rfl (World.news_of_block (heap_alloc_new i.drew (.cells #[int i64 xk,.string xd,.bool false] 34))) (by intro u R;simp[wrC]at R;rcases R with rfl|rfl|rfl<;>rfl) (by decide) (by have:=HL.out;simp only[maxLen];omega) (by have:=HL.out;omega) (by simp) _ rfl ?_
                      intro g cap9 wE ownE S egE ltE;have D:=((j.box).boxed (.cells #[int i64 xk,.string xd,.bool false] 34)).grown S (λe=>j.nb e.symm);have e9:=D.cell 9 _ rfl
                      have h9:=D.free 9 (by simp[qbl]))
       all_goals
           have U:=qpd HS.out (boxed ((qac O ((Below.refl _ i).drew))) (.cells #[int i64 xk,.string xd,.bool false] 34)) ownE S egE (by simp);clear D z9 g9 F C G j Q
           go_wp2_with fail
           go_ret;refine⟨by rw[M.out.1];rfl,?_⟩;rw[M.out.2];exact U
      |none=>
       rw[hw,show (none:Option Wr).isSome=false from rfl,show wrV ⟨ok,r,z⟩=.agg #[int i64 ok,.string r,.bool z]from rfl]at H
       go_wp2_with fail
       refine H.mono ?_;rintro e w2 ⟨rfl,N⟩;have l:=boxed N (.cells #[int i64 ok,.string r,.bool z] 34);have m:=L.later l;have n:=k.later l;have O:=qac K l;obtain⟨i,P⟩:∃i,w2.alloc (.cells #[int i64 ok,.string r,.bool z] 34)=i:=⟨_,rfl⟩;rw[P]at m n O;have AL:=ALL.out i m;clear F C G H N L k l
       go_wp2_with (rw[P])
       refine AL.mono ?_;rintro e p ⟨v,rfl,ownv,hb4⟩;obtain⟨va,vc,rfl,hWv⟩:=qcw ownv;have SA:=m.later hb4;have XA:=n.later hb4;have hbwA:=qac O hb4;clear AL hWv ownv m n;by_cases o:(5:Int)<=((qbs s.ws).length:Int)
       ·have U:=q.out p (HF2.out ⟨hw,by omega⟩) hbwA;clear hw Z ALL q Y HF2
        go_wp2_with fail
        go_ret;exact U
       ·have M:Hid _:=Y.out (λe=>by have:=e.2;omega);clear hw Z ALL q Y HF2
        go_wp2_with fail
        have j:qla p.drew b (.slice a s.ws.length cap) s:=SA.later ((Below.refl _ p).drew);have Q:=j.row;have hbl:b<p.heap.size:=j.box.lt;have hxl:w.heap.size<p.heap.size:=XA.lt;have z9:=SA.box.cell 9 _ rfl;have g9:=SA.box.free 9 (by simp[qbl]);have F:=XA.cell 0 _ rfl;have C:=XA.cell 1 _ rfl;have G:=XA.cell 2 _ rfl
        go_region_law (refine step_append_lies _ rfl (.tmp 46) (.tmp 48) 65 rfl 0 34 i0 (.agg #[int i64 0,.string ⟨#[]⟩,.bool false]) 3 32 underlying65 hi hz0 hz1 hz2 rfl (by decide) (.slice a s.ws.length cap) s.ws.length (qf4 s.ws) (by simp[Act.eval]) (Q.alloc _) ⟨p.heap.size,0,none⟩ 1 1 (wrC ⟨xk,xd,false⟩) (by simp[Act.eval]) rfl (World.news_of_block (heap_alloc_new p.drew (.cells #[int i64 xk,.string xd,.bool false] 34))) (by intro u R;simp[wrC]at R;rcases R with rfl|rfl|rfl<;>rfl) (by decide) (by have:=HL.out;simp only[maxLen];omega) (by have:=HL.out;omega) (by simp) _ rfl ?_
                       intro g cap9 wE ownE S egE ltE;have D:=((j.box).boxed (.cells #[int i64 xk,.string xd,.bool false] 34)).grown S (λe=>j.nb e.symm);have e9:=D.cell 9 _ rfl
                       have h9:=D.free 9 (by simp[qbl]))
        all_goals
            have U:=qpd HS.out (boxed ((qac hbwA ((Below.refl _ p).drew))) (.cells #[int i64 xk,.string xd,.bool false] 34)) ownE S egE (by simp);clear D z9 g9 F C G j Q
            go_wp2_with fail
            go_ret;refine⟨by rw[M.out.1];rfl,?_⟩;rw[M.out.2];exact U
     ·have hee:xd.toList.isEmpty=true:=by simpa using hgg
      clear hgg;go_enter func35,ntmps35
      go_wp2_with fail
      refine IN.mono ?_;rintro e I ⟨rfl,J⟩;obtain⟨L,k,K⟩:=GO.out I J;clear k8 x0 x1 x2 IN GO J;have F:=k.cell 0 _ rfl;have C:=k.cell 1 _ rfl;have G:=k.cell 2 _ rfl;have H:=Z.out I L;cases hw:qe7 s.ws xk with
      |some y=>
       rw[hw,show (some y).isSome=true from rfl,show wrV ⟨ok,r,z⟩=.agg #[int i64 ok,.string r,.bool z]from rfl]at H;have M:Hid _:=Y.out (λe=>by rw[hw]at e;cases e.1);clear hw Z ALL q Y HF2
       go_wp2_with fail
       refine H.mono ?_;rintro e w2 ⟨rfl,N⟩;have l:=boxed N (.cells #[int i64 ok,.string r,.bool z] 34);have m:=L.later l;have n:=k.later l;have O:=qac K l;obtain⟨i,P⟩:∃i,w2.alloc (.cells #[int i64 ok,.string r,.bool z] 34)=i:=⟨_,rfl⟩;rw[P]at m n O;clear F C G H N L k l
       go_wp2_with (rw[P])
       have j:qla i.drew b (.slice a s.ws.length cap) s:=m.later ((Below.refl _ i).drew);have Q:=j.row;have hbl:b<i.heap.size:=j.box.lt;have hxl:w.heap.size<i.heap.size:=n.lt;have z9:=m.box.cell 9 _ rfl;have g9:=m.box.free 9 (by simp[qbl]);have F:=n.cell 0 _ rfl;have C:=n.cell 1 _ rfl;have G:=n.cell 2 _ rfl
       go_region_law (refine step_append_lies _ rfl (.tmp 46) (.tmp 48) 65 rfl 0 34 i0 (.agg #[int i64 0,.string ⟨#[]⟩,.bool false]) 3 32 underlying65 hi hz0 hz1 hz2 rfl (by decide) (.slice a s.ws.length cap) s.ws.length (qf4 s.ws) (by simp[Act.eval]) (Q.alloc _) ⟨i.heap.size,0,none⟩ 1 1 (wrC ⟨xk,xd,true⟩) (by simp[Act.eval]) rfl (World.news_of_block (heap_alloc_new i.drew (.cells #[int i64 xk,.string xd,.bool true] 34))) (by intro u R;simp[wrC]at R;rcases R with rfl|rfl|rfl<;>rfl) (by decide) (by have:=HL.out;simp only[maxLen];omega) (by have:=HL.out;omega) (by simp) _ rfl ?_
                      intro g cap9 wE ownE S egE ltE;have D:=((j.box).boxed (.cells #[int i64 xk,.string xd,.bool true] 34)).grown S (λe=>j.nb e.symm);have e9:=D.cell 9 _ rfl
                      have h9:=D.free 9 (by simp[qbl]))
       all_goals
           have U:=qpd HS.out (boxed ((qac O ((Below.refl _ i).drew))) (.cells #[int i64 xk,.string xd,.bool true] 34)) ownE S egE (by simp);clear D z9 g9 F C G j Q
           go_wp2_with fail
           go_ret;refine⟨by rw[M.out.1];rfl,?_⟩;rw[M.out.2];exact U
      |none=>
       rw[hw,show (none:Option Wr).isSome=false from rfl,show wrV ⟨ok,r,z⟩=.agg #[int i64 ok,.string r,.bool z]from rfl]at H
       go_wp2_with fail
       refine H.mono ?_;rintro e w2 ⟨rfl,N⟩;have l:=boxed N (.cells #[int i64 ok,.string r,.bool z] 34);have m:=L.later l;have n:=k.later l;have O:=qac K l;obtain⟨i,P⟩:∃i,w2.alloc (.cells #[int i64 ok,.string r,.bool z] 34)=i:=⟨_,rfl⟩;rw[P]at m n O;have AL:=ALL.out i m;clear F C G H N L k l
       go_wp2_with (rw[P])
       refine AL.mono ?_;rintro e p ⟨v,rfl,ownv,hb4⟩;obtain⟨va,vc,rfl,hWv⟩:=qcw ownv;have SA:=m.later hb4;have XA:=n.later hb4;have hbwA:=qac O hb4;clear AL hWv ownv m n;by_cases o:(5:Int)<=((qbs s.ws).length:Int)
       ·have U:=q.out p (HF2.out ⟨hw,by omega⟩) hbwA;clear hw Z ALL q Y HF2
        go_wp2_with fail
        go_ret;exact U
       ·have M:Hid _:=Y.out (λe=>by have:=e.2;omega);clear hw Z ALL q Y HF2
        go_wp2_with fail
        have j:qla p.drew b (.slice a s.ws.length cap) s:=SA.later ((Below.refl _ p).drew);have Q:=j.row;have hbl:b<p.heap.size:=j.box.lt;have hxl:w.heap.size<p.heap.size:=XA.lt;have z9:=SA.box.cell 9 _ rfl;have g9:=SA.box.free 9 (by simp[qbl]);have F:=XA.cell 0 _ rfl;have C:=XA.cell 1 _ rfl;have G:=XA.cell 2 _ rfl
        go_region_law (refine step_append_lies _ rfl (.tmp 46) (.tmp 48) 65 rfl 0 34 i0 (.agg #[int i64 0,.string ⟨#[]⟩,.bool false]) 3 32 underlying65 hi hz0 hz1 hz2 rfl (by decide) (.slice a s.ws.length cap) s.ws.length (qf4 s.ws) (by simp[Act.eval]) (Q.alloc _) ⟨p.heap.size,0,none⟩ 1 1 (wrC ⟨xk,xd,true⟩) (by simp[Act.eval]) rfl (World.news_of_block (heap_alloc_new p.drew (.cells #[int i64 xk,.string xd,.bool true] 34))) (by intro u R;simp[wrC]at R;rcases R with rfl|rfl|rfl<;>rfl) (by decide) (by have:=HL.out;simp only[maxLen];omega) (by have:=HL.out;omega) (by simp) _ rfl ?_
                       intro g cap9 wE ownE S egE ltE;have D:=((j.box).boxed (.cells #[int i64 xk,.string xd,.bool true] 34)).grown S (λe=>j.nb e.symm);have e9:=D.cell 9 _ rfl
                       have h9:=D.free 9 (by simp[qbl]))
        all_goals
            have U:=qpd HS.out (boxed ((qac hbwA ((Below.refl _ p).drew))) (.cells #[int i64 xk,.string xd,.bool true] 34)) ownE S egE (by simp);clear D z9 g9 F C G j Q
            go_wp2_with fail
            go_ret;refine⟨by rw[M.out.1];rfl,?_⟩;rw[M.out.2];exact U
    ·simp only[Bool.and_eq_true,Bool.not_eq_true']at hgg;obtain⟨rfl,hee⟩:=hgg
     have E:qfi s ⟨xk,xd,true⟩=1:=by unfold qfi;rw[if_neg n1,if_neg X,if_neg n3,if_pos ⟨rfl,q5h hee⟩]
     have q:Hid (∀c,Below w.heap.size w c->(.returned (int i64 1):Ending)=.returned (int i64 (qfi s ⟨xk,xd,true⟩))/\qkh w b (.slice a s.ws.length cap) (qk2 s ⟨xk,xd,true⟩) c):=λc o=>(W.out _ 1 E (by decide) o).out;clear E ho B h V W hl n1 X hin n3;go_enter func35,ntmps35
     go_wp2_with fail
     refine IN.mono ?_;rintro e I ⟨rfl,J⟩;obtain⟨_,k,K⟩:=GO.out I J;clear k8 x0 x1 x2;have F:=k.cell 0 _ rfl;have C:=k.cell 1 _ rfl;have G:=k.cell 2 _ rfl
     go_wp2_with fail
     go_ret;exact q.out _ K
end
section
open Tryz Go.Extern.Stop Go.Stop Go.Extern
theorem qqo (t:Addr) (w:World):(ReflectliteValue.unpack (.iface 139 (.pointer (some t)))).run prog w
 =.ok (.agg #[.pointer (some ⟨1,139,none⟩),.pointer (some ⟨w.heap.size,0,none⟩),.int .u64 150]) (w.alloc (.cells #[.pointer (some t)] 139)):=by kernel_rfl
theorem qza (a:Addr) (w:World):(ReflectliteValue.methodAny (ReflectliteValue.valueError "reflectlite.Value.Type" 0) (λt _ _ _=>ReflectliteType.toType t) #[.agg #[.pointer (some ⟨1,139,none⟩),.pointer (some a),.int .u64 150]]).run prog w
 =.ok (.iface 209 (.agg #[.pointer (some ⟨1,139,none⟩)])) w:=by kernel_rfl
theorem q4n (h:Value) (w:World):(Go.method 393 209 (.agg #[h]) "Kind").run prog w=.ok (197,h) w:=by kernel_rfl
theorem q3t (h:Value) (w:World):(Go.method 393 209 (.agg #[h]) "Elem").run prog w=.ok (209,.agg #[h]) w:=by kernel_rfl
theorem q3w (h:Value) (w:World):(Go.method 393 209 (.agg #[h]) "Implements").run prog w=.ok (210,.agg #[h]) w:=by kernel_rfl
theorem qxy (h:Value) (w:World):(Go.method 393 209 (.agg #[h]) "AssignableTo").run prog w=.ok (207,.agg #[h]) w:=by kernel_rfl
theorem qx7 (w:World):((ReflectliteType.abiMethod λt=>(λa:Nat=>Value.int IntKind.u8 (a:Int))<$>Rtype.kind t) #[.pointer (some ⟨1,139,none⟩)]).run prog w=.ok (.int .u8 22) w:=by kernel_rfl
theorem q3p (w:World):((ReflectliteType.abiMethod λt=>(λa:Nat=>Value.int IntKind.u8 (a:Int))<$>Rtype.kind t) #[.pointer (some ⟨1,29,none⟩)]).run prog w=.ok (.int .u8 2) w:=by kernel_rfl
theorem qxj (w:World):(ReflectliteType.method ReflectliteType.elem #[.agg #[.pointer (some ⟨1,139,none⟩)]]).run prog w=.ok (.iface 209 (.agg #[.pointer (some ⟨1,29,none⟩)])) w:=by kernel_rfl
theorem q3s (w:World):(ReflectliteType.relation "Implements" ReflectliteType.implements_ #[.agg #[.pointer (some ⟨1,29,none⟩)],.iface 209 (.agg #[.pointer (some ⟨1,25,none⟩)])]).run prog w=.ok (.bool true) w:=by kernel_rfl
theorem qzd (v:Value) (w:World):(ReflectliteType.typeOf #[.iface 29 v]).run prog w=.ok (.iface 209 (.agg #[.pointer (some ⟨1,29,none⟩)])) w:=by kernel_rfl
theorem qxa (w:World):(ReflectliteType.relation "AssignableTo" ReflectliteType.assignableTo #[.agg #[.pointer (some ⟨1,29,none⟩)],.iface 209 (.agg #[.pointer (some ⟨1,29,none⟩)])]).run prog w=.ok (.bool true) w:=by kernel_rfl
theorem qvu (n:Int) (w:World):(ReflectliteValue.unpack (.iface 29 (.int .i64 n))).run prog w
 =.ok (.agg #[.pointer (some ⟨1,29,none⟩),.pointer (some ⟨w.heap.size,0,none⟩),.int .u64 130]) (w.alloc (.cells #[.int .i64 n] 29)):=by kernel_rfl
theorem qnx (a:Addr) (w:World):(ReflectliteValue.parts (.agg #[.pointer (some ⟨1,139,none⟩),.pointer (some a),.int .u64 150])).run prog w=.ok (some (139,a,150)) w:=by kernel_rfl
theorem qus (a:Addr) (w:World):(ReflectliteValue.parts (.agg #[.pointer (some ⟨1,29,none⟩),.pointer (some a),.int .u64 386])).run prog w=.ok (some (29,a,386)) w:=by kernel_rfl
theorem q2q (a:Addr) (w:World):(ReflectliteValue.parts (.agg #[.pointer (some ⟨1,29,none⟩),.pointer (some a),.int .u64 130])).run prog w=.ok (some (29,a,130)) w:=by kernel_rfl
theorem q1b (w:World):(Rtype.elem? 139).run prog w=.ok (some 29) w:=by kernel_rfl
theorem q6h (p:Addr) (w:World):(ReflectliteValue.mk 29 p ReflectliteValue.flagAddr).run prog w=.ok (.agg #[.pointer (some ⟨1,29,none⟩),.pointer (some p),.int .u64 386]) w:=by kernel_rfl
theorem q18 (w:World):(Rtype.directlyAssignable 29 29).run prog w=.ok true w:=by kernel_rfl
theorem q4y (a p:Addr) (W:World) (b:W.cell? a=some (.pointer (some p))):
 (ReflectliteValue.method (ReflectliteValue.valueError "reflectlite.Value.IsNil" 0) ReflectliteValue.isNil #[.agg #[.pointer (some ⟨1,139,none⟩),.pointer (some a),.int .u64 150]]).run prog W=.ok (.bool false) W:=by
 refine Eq.trans (congrArg (λs=>Sem.run prog s W) (show ReflectliteValue.method (ReflectliteValue.valueError "reflectlite.Value.IsNil" 0) ReflectliteValue.isNil #[(.agg #[.pointer (some ⟨1,139,none⟩),.pointer (some a),.int .u64 150])]=(ReflectliteValue.parts (.agg #[.pointer (some ⟨1,139,none⟩),.pointer (some a),.int .u64 150])>>=_)from rfl)) ?_;simp only[Sem.run_bind,qnx,Result.andThen];simp[ReflectliteValue.isNil,loadVar,isAgg,underlying,underlying139,b,Result.andThen]
theorem q4v (a p:Addr) (W:World) (b:W.cell? a=some (.pointer (some p))):
 (ReflectliteValue.method (ReflectliteValue.valueError "reflectlite.Value.Elem" 0) ReflectliteValue.elem #[.agg #[.pointer (some ⟨1,139,none⟩),.pointer (some a),.int .u64 150]]).run prog W
  =.ok (.agg #[.pointer (some ⟨1,29,none⟩),.pointer (some p),.int .u64 386]) W:=by
 refine Eq.trans (congrArg (λs=>Sem.run prog s W) (show ReflectliteValue.method (ReflectliteValue.valueError "reflectlite.Value.Elem" 0) ReflectliteValue.elem #[(.agg #[.pointer (some ⟨1,139,none⟩),.pointer (some a),.int .u64 150])]=(ReflectliteValue.parts (.agg #[.pointer (some ⟨1,139,none⟩),.pointer (some a),.int .u64 150])>>=_)from rfl)) ?_;simp only[Sem.run_bind,qnx,Result.andThen];simp[ReflectliteValue.elem,loadVar,isAgg,underlying,underlying139,b,Result.andThen,q1b,q6h]
theorem q58 (a b:Addr) (n:Int) (c:Value) (W:World) (hb:W.cell? b=some (.int .i64 n)) (d:W.cell? a=some c) (e:W.frozen? a=false):
 (ReflectliteValue.set #[.agg #[.pointer (some ⟨1,29,none⟩),.pointer (some a),.int .u64 386],.agg #[.pointer (some ⟨1,29,none⟩),.pointer (some b),.int .u64 130]]).run prog W
  =.ok (.tuple #[]) (W.setCell a (.int .i64 n)):=by
 refine Eq.trans (congrArg (λs=>Sem.run prog s W) (show ReflectliteValue.set #[(.agg #[.pointer (some ⟨1,29,none⟩),.pointer (some a),.int .u64 386]),(.agg #[.pointer (some ⟨1,29,none⟩),.pointer (some b),.int .u64 130])]=(ReflectliteValue.parts (.agg #[.pointer (some ⟨1,29,none⟩),.pointer (some a),.int .u64 386])>>=λ_=>ReflectliteValue.parts (.agg #[.pointer (some ⟨1,29,none⟩),.pointer (some b),.int .u64 130])>>=_)from rfl)) ?_;simp only[Sem.run_bind,qus,q2q,Result.andThen];simp[ReflectliteValue.flagAddr,loadVar,isAgg,underlying,underlying29,hb,Result.andThen,q18,storeVar,Value.cells,storeCells,Addr.add];rw[run_store prog W a _ _ (by rfl)];simp[d,e]
end
section
open Tryz Go.Extern.Stop Go.Stop Go.Extern
theorem q5i (n:Int) (t:Addr) (a:Value) (w:World) (b:w.cell? ⟨0,0,none⟩=some (.iface 209 (.agg #[.pointer (some ⟨1,25,none⟩)]))) (c:w.cell? t=some a) (e:w.frozen? t=false):
 Calls prog 68 #[.iface 29 (.int .i64 n),.iface 139 (.pointer (some t))] w λev w'=>ev=.returned (.bool true)/\w'=((((w.alloc (.cells #[.pointer (some t)] 139)).alloc (.cells #[.pointer (some ⟨1,139,none⟩),.pointer (some ⟨w.heap.size,0,none⟩),.int .u64 150] 183)).alloc (.cells #[.pointer (some ⟨1,139,none⟩),.pointer (some ⟨w.heap.size,0,none⟩),.int .u64 150] 183)).alloc (.cells #[.int .i64 n] 29)).setCell t (.int .i64 n):=by
 have h:=@run_callFunc_extern prog 102 _ (λargs=>ReflectliteValue.unpack (args.getD 0 (.tuple #[]))) func102 (by kernel_rfl) (by kernel_rfl) (by kernel_rfl) (by kernel_rfl);have i:=@run_callFunc_extern prog 103 _ (ReflectliteValue.methodAny (ReflectliteValue.valueError "reflectlite.Value.Type" 0) (λt _ _ _=>ReflectliteType.toType t)) func103 (by kernel_rfl) (by kernel_rfl) (by kernel_rfl) (by kernel_rfl);have j:=@run_callFunc_extern prog 104 _ (ReflectliteValue.method (ReflectliteValue.valueError "reflectlite.Value.IsNil" 0) ReflectliteValue.isNil) func104 (by kernel_rfl) (by kernel_rfl) (by kernel_rfl) (by kernel_rfl);have k:=@run_callFunc_extern prog 197 _ (ReflectliteType.abiMethod λt=>do pure (.int .u8 (<-Rtype.kind t))) func197 (by kernel_rfl) (by kernel_rfl) (by kernel_rfl) (by kernel_rfl);have l:=@run_callFunc_extern prog 209 _ (ReflectliteType.method ReflectliteType.elem) func209 (by kernel_rfl) (by kernel_rfl) (by kernel_rfl) (by kernel_rfl);have m:=@run_callFunc_extern prog 210 _ (ReflectliteType.relation "Implements" ReflectliteType.implements_) func210 (by kernel_rfl) (by kernel_rfl) (by kernel_rfl) (by kernel_rfl);have o:=@run_callFunc_extern prog 127 _ ReflectliteType.typeOf func127 (by kernel_rfl) (by kernel_rfl) (by kernel_rfl) (by kernel_rfl);have p:=@run_callFunc_extern prog 207 _ (ReflectliteType.relation "AssignableTo" ReflectliteType.assignableTo) func207 (by kernel_rfl) (by kernel_rfl) (by kernel_rfl) (by kernel_rfl)
 have q:=@run_callFunc_extern prog 128 _ (ReflectliteValue.method (ReflectliteValue.valueError "reflectlite.Value.Elem" 0) ReflectliteValue.elem) func128 (by kernel_rfl) (by kernel_rfl) (by kernel_rfl) (by kernel_rfl);have r:=@run_callFunc_extern prog 129 _ ReflectliteValue.set func129 (by kernel_rfl) (by kernel_rfl) (by kernel_rfl) (by kernel_rfl);have s:=qzd;have u:=qxy;have v:=qxa;have x:=qvu;have y:=qqo;have z:=qza;have B:=q4n;have C:=q3t;have D:=q3w;have E:=qx7;have F:=q3p;have G:=qxj;have H:=q3s;have I:=q4y ⟨w.heap.size,0,none⟩ t ((w.alloc (.cells #[.pointer (some t)] 139)).alloc (.cells #[.pointer (some ⟨1,139,none⟩),.pointer (some ⟨w.heap.size,0,none⟩),.int .u64 150] 183)) (by simp);have g:0<w.heap.size:=World.block_lt_of_cell? _ _ b;have d:t.block<w.heap.size:=World.block_lt_of_cell? _ _ c
 have J:((w.alloc (.cells #[.pointer (some t)] 139)).alloc (.cells #[.pointer (some ⟨1,139,none⟩),.pointer (some ⟨w.heap.size,0,none⟩),.int .u64 150] 183)).cell? ⟨0,0,none⟩=some (.iface 209 (.agg #[.pointer (some ⟨1,25,none⟩)])):=by
  rw[World.cell?_alloc_lt _ _ ⟨0,0,none⟩ (by simp),World.cell?_alloc_lt _ _ ⟨0,0,none⟩ g];exact b
 have K:=q4v ⟨w.heap.size,0,none⟩ t (((w.alloc (.cells #[.pointer (some t)] 139)).alloc (.cells #[.pointer (some ⟨1,139,none⟩),.pointer (some ⟨w.heap.size,0,none⟩),.int .u64 150] 183)).alloc (.cells #[.pointer (some ⟨1,139,none⟩),.pointer (some ⟨w.heap.size,0,none⟩),.int .u64 150] 183)) (by rw[World.cell?_alloc_lt _ _ ⟨w.heap.size,0,none⟩ (by simp;omega)];simp)
 have st:=q58 t ⟨w.heap.size+1+1+1,0,none⟩ n a ((((w.alloc (.cells #[.pointer (some t)] 139)).alloc (.cells #[.pointer (some ⟨1,139,none⟩),.pointer (some ⟨w.heap.size,0,none⟩),.int .u64 150] 183)).alloc (.cells #[.pointer (some ⟨1,139,none⟩),.pointer (some ⟨w.heap.size,0,none⟩),.int .u64 150] 183)).alloc (.cells #[.int .i64 n] 29))
  (by rw[World.cell?_alloc_at _ _ _ _ (by simp)];rfl)
  (by rw[World.cell?_alloc_lt _ _ t (by simp;omega),World.cell?_alloc_lt _ _ t (by simp;omega),World.cell?_alloc_lt _ _ t (by simp;omega),World.cell?_alloc_lt _ _ t d];exact c)
  (by rw[World.frozen?_alloc_old _ _ t (by simp;omega),World.frozen?_alloc_old _ _ t (by simp;omega),World.frozen?_alloc_old _ _ t (by simp;omega),World.frozen?_alloc_old _ _ t (Nat.ne_of_lt d)];exact e)
 go_enter func68,ntmps68
 go_wp2
 refine wp_loop_rounds 1 ?_;rw[rounds_succ]
 go_wp2
 go_ret;exact⟨rfl,rfl⟩
theorem q1n (w:World):Calls prog 26 #[.nilIface] w λe w'=>e=.returned (.int .i64 0)/\w'=w:=by
 go_enter func26,ntmps26
 go_wp2
 go_ret;exact⟨rfl,rfl⟩
theorem qvf (n:Int) (w:World) (a:w.cell? ⟨0,0,none⟩=some (.iface 209 (.agg #[.pointer (some ⟨1,25,none⟩)]))):
 Calls prog 26 #[.iface 29 (.int .i64 n)] w λe w'=>e=.returned (.int .i64 n)/\Below w.heap.size w w':=by
 have b:=cell_later (boxed (Below.refl _ w) (.cells #[.int .i64 0] 29)) a
 have c:(w.alloc (.cells #[.int .i64 0] 29)).cell? ⟨w.heap.size,0,none⟩=some (.int .i64 0):=by simp
 have d:(w.alloc (.cells #[.int .i64 0] 29)).frozen? ⟨w.heap.size,0,none⟩=false:=by simp
 go_enter func26,ntmps26
 go_wp2_with fail
 refine(q5i _ _ (.int .i64 0) _ b c d).mono ?_;rintro e g ⟨rfl,rfl⟩
 go_wp2
 go_ret;refine⟨rfl,?_⟩
 repeat (first|(with_reducible exact Below.refl _ _)|(with_reducible refine boxed ?_ _)|(with_reducible refine Below.setCell ?_ (Nat.le_refl _) _))
end
section
open Tryz Go.Extern.Stop Go.Stop Go.Extern
theorem qw6 (w:World):Calls prog 31 #[.nilIface] w λe w'=>e=.returned (.tuple #[.int .i64 0,.bool true])/\w'=w:=by
 go_enter func31,ntmps31
 go_wp2_with (go_at_call 26;refine(q1n _).mono ?_;rintro e w' ⟨rfl,rfl⟩)
 refine wp_loop_rounds 1 ?_;rw[rounds_succ]
 go_wp2
 go_ret2;exact⟨rfl,rfl⟩
theorem q06 (n:Int) (w:World):(Instr.typeAssert (.iface 29 (.int .i64 n)) 25 150 true).run prog w=.ok (.tuple #[.pointer none,.bool false]) w:=by kernel_rfl
theorem qqg (n:Int) (w:World):(Instr.typeAssert (.iface 29 (.int .i64 n)) 25 152 true).run prog w=.ok (.tuple #[.nilIface,.bool false]) w:=
 run_typeAssert_lacksB underlying152 (by kernel_rfl) (by kernel_rfl) _ _ w
theorem qs3 (n:Int) (w:World) (a:w.cell? ⟨0,0,none⟩=some (.iface 209 (.agg #[.pointer (some ⟨1,25,none⟩)]))):
 Calls prog 31 #[.iface 29 (.int .i64 n)] w λe w'=>e=.returned (.tuple #[.int .i64 n,.bool true])/\Below w.heap.size w w':=by
 have b:=q06;have c:=qqg;go_enter func31,ntmps31
 go_wp2_with (go_at_call 26;refine(qvf _ _ a).mono ?_;rintro e d ⟨rfl,hb⟩)
 refine wp_loop_rounds 1 ?_;rw[rounds_succ]
 go_wp2
 go_ret2;exact⟨rfl,hb⟩
theorem q2f (w:World):Calls prog 9 #[.nilIface,.int .i64 0] w λe w'=>e=.returned (.bool true)/\Below w.heap.size w w':=by
 go_enter func9,ntmps9
 go_wp2_with (go_at_call 31;refine(qw6 _).mono ?_;rintro e w' ⟨rfl,rfl⟩)
 go_ret;exact⟨rfl,Below.refl _ _⟩
theorem qwo (n:Int) (w:World) (a:w.cell? ⟨0,0,none⟩=some (.iface 209 (.agg #[.pointer (some ⟨1,25,none⟩)]))):
 Calls prog 9 #[.iface 29 (.int .i64 n),.int .i64 n] w λe w'=>e=.returned (.bool true)/\Below w.heap.size w w':=by
 go_enter func9,ntmps9
 go_wp2_with (go_at_call 31;refine(qs3 _ _ a).mono ?_;rintro e b ⟨rfl,hb⟩)
 go_ret;exact⟨by simp,hb⟩
end
def qtk (ev:Value) (n:Int):Prop:=∀w:World,w.cell? ⟨0,0,none⟩=some (.iface 209 (.agg #[.pointer (some ⟨1,25,none⟩)]))->
    Calls Tryz.prog 9 #[ev,.int .i64 n] w λe w'=>e=.returned (.bool true)/\Below w.heap.size w w'
theorem qrw:qtk .nilIface 0:=λw _=>q2f w
theorem qvg (n:Int):qtk (.iface 29 (.int .i64 n)) n:=λw a=>qwo n w a
theorem qo9 (n:Int):qtk (qa9 n) n:=by
 unfold qa9;split
 ·rename_i h;rw[h];exact qrw
 ·exact qvg n
section
def Duo (w:World) (bp br:Nat) (Wp Wr:WoS) (X:Nat->Prop):Prop:=
 ∃Gp Gr,PW w bp Gp Wp/\RW w br Gr Wr/\(∀k,Gp k->¬Gr k)/\∀k,X k->k<w.heap.size/\¬Gp k/\¬Gr k
section
variable {w w':World} {bp br:Nat} {Wp Wr W':WoS} {X Gp Gr:Nat->Prop}
theorem Duo.kept (h:Duo w bp br Wp Wr X) (a:qae (λk=>X k) w w'):Duo w' bp br Wp Wr X:=by
 obtain⟨Gp,Gr,p,r,d,c⟩:=h;exact⟨Gp,Gr,p.kept (λk e=>a.block k (p.lt k e) (λq=>(c k q).2.1 e)) a.size,r.kept (λk e=>a.block k (r.lt k e) (λq=>(c k q).2.2 e)) a.size,d,λk e=>⟨Nat.lt_of_lt_of_le (c k e).1 a.size,(c k e).2⟩⟩
theorem Duo.later (h:Duo w bp br Wp Wr X) (hb:Below w.heap.size w w'):Duo w' bp br Wp Wr X:=h.kept (qae.ofBelow hb)
theorem Duo.boxed (h:Duo w bp br Wp Wr X) (o:Obj):Duo (w.alloc o) bp br Wp Wr (λk=>X k\/k=w.heap.size):=by
 have hb:=Go.Proofs.YtemiamjnhoeniaaGreatDoor.boxed (Below.refl _ w) o;obtain⟨Gp,Gr,p,r,d,a⟩:=h;refine⟨Gp,Gr,p.later hb,r.later hb,d,λk e=>?_⟩;rcases e with e|e
 ·exact⟨Nat.lt_of_lt_of_le (a k e).1 hb.size,(a k e).2⟩
 ·subst e;exact⟨by simp,λq=>by have:=p.lt _ q;omega,λq=>by have:=r.lt _ q;omega⟩
theorem Duo.less (h:Duo w bp br Wp Wr X) {Y:Nat->Prop} (a:∀k,Y k->X k):Duo w bp br Wp Wr Y:=by
 obtain⟨Gp,Gr,p,r,d,c⟩:=h;exact⟨Gp,Gr,p,r,d,λk e=>c k (a k e)⟩
theorem qhx (p:PW w bp Gp Wp) (d:∀k,Gp k->¬Gr k) (c:∀k,X k->k<w.heap.size/\¬Gp k/\¬Gr k) (g:qgi w br Gr W' w'):Duo w' bp br Wp W' X/\qby X w w':=by
 obtain⟨h,i,s2,a⟩:=g;refine⟨⟨Gp,h,p.kept (λk e=>a.block k (p.lt k e) (d k e)) a.size,i,λk f j=>?_,λk e=>?_⟩,⟨a.os,a.tape,a.output,a.size,λk e=>a.block k (c k e).1 (c k e).2.2⟩⟩
 ·rcases s2 k j with q|q
  ·exact d k f q
  ·have:=p.lt k f;omega
 ·have:=c k e;refine⟨Nat.lt_of_lt_of_le this.1 a.size,this.2.1,λq=>?_⟩;rcases s2 k q with q|q
  ·exact this.2.2 q
  ·omega
theorem qcx (r:RW w br Gr Wr) (d:∀k,Gp k->¬Gr k) (c:∀k,X k->k<w.heap.size/\¬Gp k/\¬Gr k) (g:qgq w bp Gp W' w'):Duo w' bp br W' Wr X/\qby X w w':=by
 obtain⟨h,p2,s2,a⟩:=g;refine⟨⟨h,Gr,p2,r.kept (λk e=>a.block k (r.lt k e) (λq=>d k q e)) a.size,λk i f=>?_,λk e=>?_⟩,⟨a.os,a.tape,a.output,a.size,λk e=>a.block k (c k e).1 (c k e).2.1⟩⟩
 ·rcases s2 k i with q|q
  ·exact d k q f
  ·have:=r.lt k f;omega
 ·have:=c k e;refine⟨Nat.lt_of_lt_of_le this.1 a.size,λq=>?_,this.2.2⟩;rcases s2 k q with q|q
  ·exact this.2.1 q
  ·omega
end
variable {w:World} {b:Nat} {W:WoS} {G:Nat->Prop}
theorem RWo.session {k:Nat} {M:RoM} {Gs:Nat->Nat->Prop} (h:RWo w b M W Gs) (e:∀k,G k↔qli b M (W.n+W.c) Gs k) (d:k<W.c):∃wv,qla w (M.bs k) wv (W.ses k)/\∀a w',qkh w (M.bs k) wv a w'->qgi w b G (qb0 W k a) w':=by
 obtain⟨wv,f,g⟩:=h.sess d;exact⟨wv,f,λa w' i=>h.stepC e d (i.left g)⟩
theorem RW.lens (h:RW w b G W):∃a0 a a2 d e f,w.cell? ⟨b,0,none⟩=some (.slice a0 W.n a)/\w.cell? ⟨b,2,none⟩=some (.slice a2 W.c d)/\w.cell? ⟨b,4,none⟩=some (.slice e W.net.length f)/\w.cell? ⟨b,5,none⟩=some (.int .i64 W.lost)/\b<w.heap.size:=by
 obtain⟨M,Gs,h,_⟩:=h;obtain⟨a0,a,i,_⟩:=qan h.sr;obtain⟨a2,d,j,_⟩:=qan h.cr;obtain⟨e,f,m,_⟩:=qan h.yr
 have o:M.l.length=W.net.length:=by rw[<-h.nl];simp
 have c0:=h.box.cell 0 _ rfl;have c2:=h.box.cell 2 _ rfl;have g:=h.box.cell 4 _ rfl;rw[i]at c0;rw[j]at c2;rw[m,o]at g;exact⟨a0,a,a2,d,e,f,c0,c2,g,h.box.cell 5 _ rfl,h.box.lt⟩
structure qmi (w:World) (bp br:Nat) (Wp W:WoS) (X Gp:Nat->Prop) (M:RoM) (Gs:Nat->Nat->Prop):Prop where
 p:PW w bp Gp Wp
 r:RWo w br M W Gs
 d:∀k,Gp k->¬qli br M (W.n+W.c) Gs k
 x:∀k,X k->k<w.heap.size/\¬Gp k/\¬qli br M (W.n+W.c) Gs k
section
variable {w w' w0:World} {bp br xb k:Nat} {Wp Wr W W':WoS} {X Gp:Nat->Prop} {M:RoM} {Gs:Nat->Nat->Prop} {AC:List Value}
theorem Duo.at (h:Duo w bp br Wp W X):∃Gp M Gs,qmi w bp br Wp W X Gp M Gs:=by
 obtain⟨Gp,Gr,p,⟨M,Gs,r,c⟩,d,a⟩:=h;exact⟨Gp,M,Gs,p,r,λk e q=>d k e ((c k).2 q),λk e=>⟨(a k e).1,(a k e).2.1,λq=>(a k e).2.2 ((c k).2 q)⟩⟩
theorem qmi.later (h:qmi w bp br Wp W X Gp M Gs) (hb:Below w.heap.size w w'):qmi w' bp br Wp W X Gp M Gs:=⟨h.p.later hb,h.r.later hb,h.d,λk e=>⟨Nat.lt_of_lt_of_le (h.x k e).1 hb.size,(h.x k e).2⟩⟩
theorem qmi.ref (h:qmi w bp br Wp W X Gp M Gs) (a:qgi w br (qli br M (W.n+W.c) Gs) W' w'):Duo w' bp br Wp W' X/\qby X w w':=qhx h.p h.d h.x a
theorem qyp (h:qmi w bp br Wp W X Gp M Gs) (a:k<W.c) (d:W.at_ k<W.n):Calls Tryz.prog 32 #[.pointer (some ⟨M.bs k,0,none⟩),.pointer (some ⟨M.bp (W.at_ k),0,none⟩)] w λe w'=>e=.returned (.int .i64 (qn5 (W.S (W.at_ k)) (W.ses k)))/\Duo w' bp br Wp (qb0 W k (qne (W.S (W.at_ k)) (W.ses k))) X/\qby X w w':=by
 obtain⟨wv,g,i⟩:=h.r.session (λ_=>Iff.rfl) a;refine(qrl w g (h.r.site d) (λe=>?_)).mono λe w' ⟨j,l⟩=>⟨j,h.ref (i _ _ l)⟩;obtain⟨o,p,m⟩:=h.r.sess a;exact h.r.fam.apart (W.at_ k) (W.n+k) (M.bs k) (by omega) (by omega) (by omega) e ((m _).2 (.inl rfl))
theorem qxq (h:qmi w bp br Wp W X Gp M Gs) (a:k<W.c) (x:Go.Proofs.YtemiamjnhoeniaaGreatDoor.Wr) (d:(W.ses k).ws.length<=1000):Calls Tryz.prog 35 #[.pointer (some ⟨M.bs k,0,none⟩),wrV x] w λe w'=>e=.returned (.int .i64 (qfi (W.ses k) x))/\Duo w' bp br Wp (qb0 W k (qk2 (W.ses k) x)) X/\qby X w w':=by
 obtain⟨wv,g,i⟩:=h.r.session (λ_=>Iff.rfl) a;exact(qp0 x w g d).mono λe w' ⟨j,l⟩=>⟨j,h.ref (i _ _ l)⟩
theorem qw7 (h:qmi w bp br Wp W X Gp M Gs) (a:k<W.c):Calls Tryz.prog 39 #[.pointer (some ⟨M.bs k,0,none⟩)] w λe w'=>e=.returned (.int .i64 (qps (W.ses k)))/\Duo w' bp br Wp (qb0 W k (qnz (W.ses k))) X/\qby X w w':=by
 obtain⟨wv,d,g⟩:=h.r.session (λ_=>Iff.rfl) a;exact(qhp w d).mono λe w' ⟨i,j⟩=>⟨i,h.ref (g _ _ j)⟩
theorem q2z (h:qmi w bp br Wp W X Gp M Gs) (a:k<W.c) (d:W.at_ k<W.n) (g:qcr (W.S (W.at_ k))) (key:Int):Calls Tryz.prog 34 #[.pointer (some ⟨M.bs k,0,none⟩),.pointer (some ⟨M.bp (W.at_ k),0,none⟩),.int .i64 key] w λe w'=>e=.returned (.tuple #[.string (qc0 (W.S (W.at_ k)) (W.ses k) key).1,.int .i64 (qc0 (W.S (W.at_ k)) (W.ses k) key).2])/\Below w.heap.size w w':=by
 obtain⟨wv,i,j⟩:=h.r.session (λ_=>Iff.rfl) a;exact qnd key w i (h.r.site d) g
theorem qby.then (a:∀k,X k->k<w0.heap.size) (h:qby X w0 w) (hb:Below w.heap.size w w'):qby X w0 w':=⟨hb.os.trans h.os,hb.tape.trans h.tape,hb.output.trans h.output,Nat.le_trans h.size hb.size,λk e=>(hb.block k (Nat.lt_of_lt_of_le (a k e) h.size)).trans (h.block k e)⟩
def G0 (w:World):Prop:=w.cell? ⟨0,0,none⟩=some (.iface 209 (.agg #[.pointer (some ⟨1,25,none⟩)]))
structure Pl (w0:World) (bp br xb:Nat) (AC:List Value) (X:Nat->Prop) (Wp Wr:WoS) (w:World):Prop where
 d:Duo w bp br Wp Wr (λk=>X k\/k=xb)
 x:qag w xb AC
 k:qby X w0 w
 l:∀k,X k->k<w0.heap.size
 z:X 0
 g:G0 w
theorem Pl.first (h:Duo w bp br Wp Wr X) (c:X 0) (d:G0 w) (T:TypeId):Pl w bp br w.heap.size AC X Wp Wr (w.alloc (.cells AC.toArray T)):=by
 have a:∀k,X k->k<w.heap.size:=by obtain⟨_,_,_,_,_,f⟩:=h;exact λk e=>(f k e).1
 have hb:=Go.Proofs.YtemiamjnhoeniaaGreatDoor.boxed (Below.refl _ w) (.cells AC.toArray T);exact⟨h.boxed _,qag.new (w:=w) (T:=T) AC rfl,(qby.refl X w).then a hb,a,c,cell_later hb d⟩
theorem Pl.later (h:Pl w0 bp br xb AC X Wp Wr w) (hb:Below w.heap.size w w'):Pl w0 bp br xb AC X Wp Wr w':=⟨h.d.later hb,h.x.later hb,h.k.then h.l hb,h.l,h.z,cell_later hb h.g⟩
theorem Pl.step {c d:WoS} (h:Pl w0 bp br xb AC X Wp Wr w) (a:Duo w' bp br c d (λk=>X k\/k=xb)/\qby (λk=>X k\/k=xb) w w'):Pl w0 bp br xb AC X c d w':=
 ⟨a.1,h.x.keeps a.2 (.inr rfl),⟨a.2.os.trans h.k.os,a.2.tape.trans h.k.tape,a.2.output.trans h.k.output,Nat.le_trans h.k.size a.2.size,λk e=>(a.2.block k (.inl e)).trans (h.k.block k e)⟩,h.l,h.z,(World.cell?_of_block (w:=w) (a.2.block 0 (.inl h.z))).trans h.g⟩
theorem Pl.done (h:Pl w0 bp br xb AC X Wp Wr w):Duo w bp br Wp Wr X/\qby X w0 w:=⟨h.d.less (λ_ e=>.inl e),h.k⟩
theorem qa3 (n:Int) (h:G0 w):Calls Tryz.prog 9 #[qa9 n,.int .i64 n] w λe w'=>e=.returned (.bool true)/\Below w.heap.size w w':=qo9 n w h
end
end
theorem qx5:(Tryz.prog.info? 99).map (λi=>(i.zero,i.size,i.bytes))=some (some (.agg #[.pointer none,.int .i64 0]),2,16):=by kernel_rfl
theorem qvz:(Tryz.prog.info? 103).map (λi=>(i.zero,i.size,i.bytes))=some (some (.agg #[.pointer none,.int .i64 0]),2,16):=by kernel_rfl
def q5t:WoM:=⟨.slice none 0 0,.slice none 0 0,.slice none 0 0,λ_=>0,λ_=>0,[]⟩
theorem qxl (w:World) (T:TypeId):PWo (w.alloc (.cells #[.slice none 0 0,.slice none 0 0,.slice none 0 0,.int .i64 0] T)) w.heap.size q5t (ql4 0 0) (λ_ _=>False):=by
 refine⟨qag.new (w:=w) (T:=T) [.slice none 0 0,.slice none 0 0,.slice none 0 0,.int .i64 0] rfl,World.ownsRow_nil _ _ _ _,World.ownsRow_nil _ _ _ _,World.ownsRow_nil _ _ _ _,rfl,λm a=>(by cases a),⟨λi b=>by simp[ql4]at b,λi j k b=>by simp[ql4]at b,λk c=>?_,λk c=>c.elim⟩,⟨λe=>(by cases e),λe=>(by cases e),λe=>(by cases e)⟩,λk=>⟨λe=>(by cases e),λe=>(by cases e)⟩,λm a=>(by cases a)⟩;rcases c with e|e|e|e|⟨m,a,_⟩
 ·exact⟨by rw[e];simp,λi b=>by simp[ql4]at b⟩
 ·cases e
 ·cases e
 ·cases e
 ·cases a
theorem q51 (w:World):∀k,qg8 w.heap.size q5t k->w.heap.size<=k:=λk a=>by
 rcases a with e|e|e|e|⟨m,b,_⟩
 ·omega
 ·cases e
 ·cases e
 ·cases e
 ·cases b
structure qzj (w:World) (M:WoM) (W:WoS) (Gs:Nat->Nat->Prop) (wr:World):Prop where
 is:PWo wr w.heap.size M W Gs
 gs:∀j k,j<W.n+W.c->Gs j k->w.heap.size<=k
 ft:∀k,qg8 w.heap.size M k->w.heap.size<=k
 nl:M.l=[]
 hb:Below w.heap.size w wr
theorem q5b {n c:Nat} (V:1<=n) (h4:n<=4) (h6:c<=6) (w:World):
 Calls Tryz.prog 7 #[.int .i64 n,.int .i64 c] w λe w'=>e=.returned (.tuple #[.pointer (some ⟨w.heap.size,0,none⟩),.nilIface])/\∃G,PW w' w.heap.size G (ql4 n c)/\(∀k,G k->w.heap.size<=k)/\Below w.heap.size w w':=by
 obtain⟨i0,hi0,hz0,hz1,hz2⟩:=info_parts qx5;obtain⟨i5,hi5,hy0,hy1,hy2⟩:=info_parts qvz
 have q1:¬(n:Int)<1:=by omega
 have q2:¬4<(n:Int):=by omega
 have q3:¬(c:Int)<0:=by omega
 have q4:¬6<(c:Int):=by omega
 have D:Hid (n<=4/\c<=6):=⟨h4,h6⟩;have N0:Hid (qzj w q5t (ql4 0 0) (λ_ _=>False) (w.alloc (.cells #[.slice none 0 0,.slice none 0 0,.slice none 0 0,.int .i64 0] 94))):=⟨qxl w _,λ_ _ _ h=>h.elim,q51 w,rfl,boxed (Below.refl _ w) _⟩;clear V h4 h6;go_enter Tryz.func7,Tryz.ntmps7
 go_wp2_with fail
 clear q1 q2 q3 q4
 go_loopw [28] (λiv wr=>∃(k:Nat) (z:Int) (M:WoM) (b:Nat->Nat->Prop),k<=n/\z=k/\iv=.int .i64 z/\Hid (qzj w M (ql4 k 0) b wr)) (λiv _=>n-(intOf iv).toNat)
 case atStart=>exact⟨0,0,q5t,_,by omega,rfl,rfl,N0.out⟩
 case round=>
  clear N0;obtain⟨k,z,M,b,hk,W,rfl,a⟩:=hrel;have S:Hid (z=k):=W;by_cases hlt:k<n
  ·have T:z<(n:Int):=by omega
   have g3:0<=z:=by omega
   have g4:z<4:=by have:=D.out;omega
   have NN:=q3f z wr g3 g4;obtain⟨pa,pc,hpv,r⟩:=qan a.out.is.pr;have hrl:=r.len;have hrc:=r.cap;have o:Hid (M.pv=.slice pa k pc):=hpv;clear W r hpv
   go_wp2_with fail
   refine NN.mono ?_;rintro e w2 ⟨rfl,F,d⟩;rw[S.out]at F;have HP2:Hid (PS w2 (wr.heap.size+1) (λq=>q=wr.heap.size+1\/q=wr.heap.size) (qmz k)/\Below wr.heap.size wr w2):=⟨F,d⟩;have s:=boxed (Below.refl _ w2) (.cells #[.pointer (some ⟨wr.heap.size+1,0,none⟩),.int .i64 0] 99);have H:=qad a.out.is.pr (λq e=>d.block q (a.out.is.pr.lt q e).2);have E:=(a.out.is.box.later d).later s;rw[o.out]at H E;have c0:=(a.out.is.box.later d).cell 0 _ rfl;rw[o.out]at c0;have hlw:=(a.out.is.box.later d).lt;clear NN F
   go_wp2_with (at_builtin;refine wpList_append_lies _ rfl (.tmp 43) (.tmp 46) 90 rfl 0 99 i0 (.agg #[.pointer none,.int .i64 0]) 2 16 Tryz.underlying90 hi0 hz0 hz1 hz2 rfl (by decide) (.slice pa k pc) k (qci M.bp (ql4 k 0).wall k) rfl (H.alloc _) ⟨w2.heap.size,0,none⟩ 1 1 [.pointer (some ⟨wr.heap.size+1,0,none⟩),.int .i64 0] rfl rfl (World.news_of_block (heap_alloc_new w2 (.cells #[.pointer (some ⟨wr.heap.size+1,0,none⟩),.int .i64 0] 99))) (by intro u I;simp at I;rcases I with rfl|rfl<;>rfl) (by decide) (by have:=D.out;simp only[maxLen];omega) (by have:=D.out;omega) (Nat.zero_le _) _ rfl ?_;intro i l v X B J Y;have K:qag v w.heap.size _:=E.grown B (λe=>a.out.is.sb.1 (by rw[o.out];exact e.symm));have e0:=K.cell 0 _ rfl;have f0:=K.free 0 (by simp))
   have L:=a.out.is.addSite rfl HP2.out.1 (by omega) (by omega) rfl d s X (by rw[o.out];exact B) (by rw[o.out];exact J) Y;have hsz:=a.out.hb.size
   have N:∀j q,j<(ql4 (k+1) 0).n+(ql4 (k+1) 0).c->(λj=>if j=k then (λq=>q=wr.heap.size+1\/q=wr.heap.size)else b j) j q->w.heap.size<=q:=λj q O e=>by
        have g:(if j=k then (λq=>q=wr.heap.size+1\/q=wr.heap.size)else b j) q:=e;by_cases P:j=k
        ·rw[if_pos P]at g
         rcases g with g|g<;>omega
        ·rw[if_neg P]at g;exact a.out.gs j q (by simp[ql4]at O ⊢;omega) g
   have Q:∀q,qg8 w.heap.size {M with pv:=.slice (some ⟨i,0,none⟩) (k+1) l,bp:=λj=>if j=k then wr.heap.size+1 else M.bp j} q->w.heap.size<=q:=λq e=>by
        rcases e with e|e|e|e|⟨m,hm,e⟩
        ·omega
        ·have g:i=q:=Option.some.inj e;rcases J with r|r
         ·exact a.out.ft q (.inr (.inl (by rw[o.out,<-g];exact r)))
         ·simp at r;have:=d.size;omega
        ·exact a.out.ft q (.inr (.inr (.inl e)))
        ·exact a.out.ft q (.inr (.inr (.inr (.inl e))))
        ·exact a.out.ft q (.inr (.inr (.inr (.inr ⟨m,hm,e⟩))))
   have R:Below w.heap.size w (v.setCell ⟨w.heap.size,0,none⟩ (.slice (some ⟨i,0,none⟩) (k+1) l)):=((qac (qac a.out.hb d) s).grown B (by have:=d.size;simp;omega) (λq e=>a.out.ft q (.inr (.inl (by rw[o.out];exact e))))).setCell (p:=⟨w.heap.size,0,none⟩) (Nat.le_refl _) _;have Z:Hid (qzj w {M with pv:=.slice (some ⟨i,0,none⟩) (k+1) l,bp:=λj=>if j=k then wr.heap.size+1 else M.bp j} (ql4 (k+1) 0) (λj=>if j=k then (λq=>q=wr.heap.size+1\/q=wr.heap.size)else b j) (v.setCell ⟨w.heap.size,0,none⟩ (.slice (some ⟨i,0,none⟩) (k+1) l))):=⟨L,N,Q,a.out.nl,R⟩;clear L N Q R
   go_roundw
   case rel=>exact⟨k+1,z+1,_,_,by omega,by have:=S.out;omega,by go_num,Z.out⟩
   case measure=>simp[intOf];have:=S.out;omega
  ·have T:¬z<(n:Int):=by omega
   have ek:k=n:=by omega
   subst ek;have H0:Hid (qzj w M (ql4 k 0) b wr):=a;clear W hlt S
   go_wp2_with fail
   clear T
   go_loopw [52] (λiv wr=>∃(m:Nat) (y:Int) (M:WoM) (b:Nat->Nat->Prop),m<=c/\y=m/\iv=.int .i64 y/\Hid (qzj w M (ql4 k m) b wr)) (λiv _=>c-(intOf iv).toNat)
   case atStart=>exact⟨0,0,M,b,by omega,rfl,rfl,H0.out⟩
   case round=>
        clear H0 a;obtain⟨m,y,M,b,hm,hy,rfl,a⟩:=hrel;have HY:Hid (y=m):=hy;by_cases hml:m<c
        ·have T:y<(c:Int):=by omega
         have g3:0<=y:=by omega
         have g4:y<6:=by have:=D.out;omega
         obtain⟨ca,cc,hcv,r⟩:=qan a.out.is.cr;have hrl:=r.len;have hrc:=r.cap;have C:Hid (M.cv=.slice ca m cc):=hcv;have U:=a.out.is.box;rw[C.out]at U;have c1:=U.cell 1 _ rfl;have hlw:=U.lt;have SN:Hid (Calls Tryz.prog 29 #[] wr.drew λe w'=>e=.returned (.pointer (some ⟨wr.heap.size,0,none⟩))/\PSe w' wr.heap.size (λk=>k=wr.heap.size) qg3/\Below wr.heap.size wr w'):=(qw4 wr.drew).mono λe w' ⟨V,h2,h3⟩=>⟨V,h2,qac (Below.refl _ wr).drew h3⟩;clear hy r hcv
         go_wp2_with fail
         go_region_law (first
          |(refine qb7 rfl 29 rfl #[] (by go_simp) SN.out ?_
            rintro e w2 ⟨rfl,F,d⟩;refine⟨_,rfl,?_⟩;have s:=boxed (Below.refl _ w2) (.cells #[.pointer (some ⟨wr.heap.size,0,none⟩),.int .i64 0] 103);have H:=qad a.out.is.cr (λq e=>d.block q (a.out.is.cr.lt q e).2);rw[C.out]at H;have E:=U.later d;have k1:=E.cell 1 _ rfl
            have hl2:=E.lt)
          |(refine step_append_lies _ rfl (.tmp 58) (.tmp 61) 91 rfl 0 103 i5 (.agg #[.pointer none,.int .i64 0]) 2 16 Tryz.underlying91 hi5 hy0 hy1 hy2 rfl (by decide) (.slice ca m cc) m (qci M.bs (λj=>((ql4 k m).at_ j:Int)) m) (by simp[Act.eval]) (H.alloc _) ⟨w2.heap.size,0,none⟩ 1 1 [.pointer (some ⟨wr.heap.size,0,none⟩),.int .i64 0] (by simp[Act.eval]) rfl (World.news_of_block (heap_alloc_new w2 (.cells #[.pointer (some ⟨wr.heap.size,0,none⟩),.int .i64 0] 103))) (by intro u I;simp at I;rcases I with rfl|rfl<;>rfl) (by decide) (by have:=D.out;simp only[maxLen];omega) (by have:=D.out;omega) (Nat.zero_le _) _ rfl ?_
            intro i l v X B J Y;have K:qag v w.heap.size _:=(E.later s).grown B (λe=>a.out.is.sb.2.1 (by rw[C.out];exact e.symm));have e0:=K.cell 1 _ rfl
            have f0:=K.free 1 (by simp)))
         all_goals
          have L:=a.out.is.addSes F (Nat.le_refl _) rfl d s X (by rw[C.out];exact B) (by rw[C.out];exact J) Y;have hsz:=a.out.hb.size;have s2:=d.size
          have N:∀j q,j<(ql4 k (m+1)).n+(ql4 k (m+1)).c->(λj=>if j=k+m then (λq=>q=wr.heap.size)else b j) j q->w.heap.size<=q:=λj q O e=>by
           have g:(if j=k+m then (λq=>q=wr.heap.size)else b j) q:=e;by_cases P:j=k+m
           ·rw[if_pos P]at g;omega
           ·rw[if_neg P]at g;exact a.out.gs j q (by simp[ql4]at O ⊢;omega) g
          have Q:∀q,qg8 w.heap.size {M with cv:=.slice (some ⟨i,0,none⟩) (m+1) l,bs:=λj=>if j=m then wr.heap.size else M.bs j} q->w.heap.size<=q:=λq e=>by
           rcases e with e|e|e|e|⟨x,hx,e⟩
           ·omega
           ·exact a.out.ft q (.inr (.inl e))
           ·have g:i=q:=Option.some.inj e;rcases J with r|r
            ·exact a.out.ft q (.inr (.inr (.inl (by rw[C.out,<-g];exact r))))
            ·simp at r;omega
           ·exact a.out.ft q (.inr (.inr (.inr (.inl e))))
           ·exact a.out.ft q (.inr (.inr (.inr (.inr ⟨x,hx,e⟩))))
          have R:Below w.heap.size w (v.setCell ⟨w.heap.size,1,none⟩ (.slice (some ⟨i,0,none⟩) (m+1) l)):=((qac (qac a.out.hb d) s).grown B (by simp;omega) (λq e=>a.out.ft q (.inr (.inr (.inl (by rw[C.out];exact e)))))).setCell (p:=⟨w.heap.size,1,none⟩) (Nat.le_refl _) _;have Z:Hid (qzj w {M with cv:=.slice (some ⟨i,0,none⟩) (m+1) l,bs:=λj=>if j=m then wr.heap.size else M.bs j} (ql4 k (m+1)) (λj=>if j=k+m then (λq=>q=wr.heap.size)else b j) (v.setCell ⟨w.heap.size,1,none⟩ (.slice (some ⟨i,0,none⟩) (m+1) l))):=⟨L,N,Q,a.out.nl,R⟩;clear L N Q R
          go_wp2_with fail
          go_roundw
          case rel=>exact⟨m+1,y+1,_,_,by omega,by have:=HY.out;omega,by go_num,Z.out⟩
          case measure=>simp[intOf];have:=HY.out;omega
        ·have T:¬y<(c:Int):=by omega
         have em:m=c:=by omega
         subst em;clear hy
         go_wp2_with fail
         go_ret2;exact⟨rfl,qj4 w.heap.size M (k+m) b,⟨M,b,a.out.is,λ_=>Iff.rfl⟩,λq hq=>hq.elim (a.out.ft q) (λ⟨j,O,e⟩=>a.out.gs j q O e),a.out.hb⟩
end Go.Proofs.YtemiamjnhoeniaaGreatDoor
