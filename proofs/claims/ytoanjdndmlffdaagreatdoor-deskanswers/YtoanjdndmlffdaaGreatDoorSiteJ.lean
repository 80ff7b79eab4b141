/-
  PROVED: whatever its argument is, the law 'copselaw.DeskAnswers' returns true, and its argument reads behind the call as before it; the package-level variables on its road start as the program's text lays them, which the card ties ('Rows.DeskAnswersCardSaid' whole; the tie is the given one; it speaks of the pruned copy of the project).
-/
import Derived.Test.YtoanjdndmlffdaaGreatDoorSiteI
import Derived.Shelf.Sort.Plain
import Derived.LaidMore
import Derived.Lay
import Derived.Test.YtoanjdndmlffdaaGreatDoorTie
import Derived.Test.YtoanjdndmlffdaaGreatDoorCards
set_option maxHeartbeats 8000000
set_option maxRecDepth 1000000
namespace Go.Proofs.YtoanjdndmlffdaaGreatDoor
section
open Go.RowKit
theorem qt2 (x:Nat->Int) (y:Int) {i:Nat} (n:Nat) (hi:i<n):(qh5 x n).set i (.int .i64 y)=qh5 (qcg x i y) n:=by
 refine List.ext_getElem? λj=>?_;rw[List.getElem?_set];have c:=qnb x n;by_cases a:j<n
 ·rw[qkz a (x:=qcg x i y)];by_cases q:i=j
  ·subst q;rw[if_pos rfl,if_pos (by omega),qam]
  ·rw[if_neg q,qkz a,qby _ _ (λe=>q e.symm)]
 ·rw[List.getElem?_eq_none (l:=qh5 (qcg x i y) n) (by rw[qnb];omega),if_neg (by omega)];exact List.getElem?_eq_none (by omega)
section
variable {w:World} {b g cc i:Nat} {M:RoM} {W:WoS} {Gs:Nat->Nat->Prop}
theorem RWo.setAt (h:RWo w b M W Gs) (l:M.av=.slice (some ⟨g,0,none⟩) W.c cc) (hi:i<W.c) (x:Nat):RWo (w.setCell ⟨g,i,none⟩ (.int .i64 x)) b M {W with at_:=qcg W.at_ i x} Gs/\qae (λk=>k=g) w (w.setCell ⟨g,i,none⟩ (.int .i64 x)):=by
 have gn:M.av.ownBlock=some g:=by rw[l];rfl
 have m:(qeq b M)[4]?=some (some g):=by show some M.av.ownBlock=_;rw[gn]
 have p:∀k,k≠g->(w.setCell ⟨g,i,none⟩ (.int .i64 x)).heap[k]?=w.heap[k]?:=λk d=>Below.heap_setCell _ _ _ _ (λe=>d e)
 have f:(w.setCell ⟨g,i,none⟩ (.int .i64 x)).heap.size=w.heap.size:=by simp[World.setCell]
 have row:∀{j:Nat} (_:j≠4) (q:Nat),(qeq b M)[j]?=some (some q)->(w.setCell ⟨g,i,none⟩ (.int .i64 x)).heap[q]?=w.heap[q]?:=λ{j} a q e=>p q (λr=>qw7 h.ap (i:=4) (j:=j) (λe=>a e.symm) m (by rw[e,r]));have gf:qak b M g:=List.mem_of_getElem? m;have fam:∀j k,j<W.n+W.c->Gs j k->(w.setCell ⟨g,i,none⟩ (.int .i64 x)).heap[k]?=w.heap[k]?:=λj k a e=>p k (λq=>(h.fam.free g gf).2 j a (by rw[<-q];exact e));refine⟨⟨h.box.kept (row (j:=0) (by decide) b rfl) (by rw[f];exact Nat.le_refl _),qad h.sr (λq e=>row (j:=1) (by decide) q (by show some M.sv.ownBlock=_;rw[e])),qad h.wr (λq e=>row (j:=2) (by decide) q (by show some M.wv.ownBlock=_;rw[e])),qad h.cr (λq e=>row (j:=3) (by decide) q (by show some M.cv.ownBlock=_;rw[e])),?_,qad h.yr (λq e=>row (j:=5) (by decide) q (by show some M.yv.ownBlock=_;rw[e])),h.nl,λy t=>(h.gr y t).to (λj k o a e=>⟨e,(h.site a).frozen e,(fam j k (by omega) ((h.site a).frozenG e)).trans ((h.site a).frozen e)⟩),h.fam.to fam (by rw[f];exact Nat.le_refl _) (λk d=>⟨.inl d,by rw[f];exact h.ltF k d⟩),h.ap⟩,qae.setCell _ _ _ rfl⟩;have o:=h.ar;rw[l]at o ⊢;have s:=(o.stored i (.int .i64 x)).1;rw[qt2 _ _ _ hi]at s
 have e:(λk=>((qcg W.at_ i x k:Nat):Int))=qcg (λk=>(W.at_ k:Int)) i (x:Int):=by
  funext k
  unfold qcg
  split<;>rfl
 show World.ownsRow _ 0 _ 1 _ W.c (qh5 (λk=>((qcg W.at_ i x k:Nat):Int)) W.c);rw[e];exact s
theorem RWo.setWall (h:RWo w b M W Gs) (l:M.wv=.slice (some ⟨g,0,none⟩) W.n cc) (hi:i<W.n) (x:Int):RWo (w.setCell ⟨g,i,none⟩ (.int .i64 x)) b M {W with wall:=qcg W.wall i x} Gs/\qae (λk=>k=g) w (w.setCell ⟨g,i,none⟩ (.int .i64 x)):=by
 have gn:M.wv.ownBlock=some g:=by rw[l];rfl
 have m:(qeq b M)[2]?=some (some g):=by show some M.wv.ownBlock=_;rw[gn]
 have p:∀k,k≠g->(w.setCell ⟨g,i,none⟩ (.int .i64 x)).heap[k]?=w.heap[k]?:=λk d=>Below.heap_setCell _ _ _ _ (λe=>d e)
 have f:(w.setCell ⟨g,i,none⟩ (.int .i64 x)).heap.size=w.heap.size:=by simp[World.setCell]
 have row:∀{j:Nat} (_:j≠2) (q:Nat),(qeq b M)[j]?=some (some q)->(w.setCell ⟨g,i,none⟩ (.int .i64 x)).heap[q]?=w.heap[q]?:=λ{j} a q e=>p q (λr=>qw7 h.ap (i:=2) (j:=j) (λe=>a e.symm) m (by rw[e,r]));have gf:qak b M g:=List.mem_of_getElem? m;have fam:∀j k,j<W.n+W.c->Gs j k->(w.setCell ⟨g,i,none⟩ (.int .i64 x)).heap[k]?=w.heap[k]?:=λj k a e=>p k (λq=>(h.fam.free g gf).2 j a (by rw[<-q];exact e));refine⟨⟨h.box.kept (row (j:=0) (by decide) b rfl) (by rw[f];exact Nat.le_refl _),qad h.sr (λq e=>row (j:=1) (by decide) q (by show some M.sv.ownBlock=_;rw[e])),?_,qad h.cr (λq e=>row (j:=3) (by decide) q (by show some M.cv.ownBlock=_;rw[e])),qad h.ar (λq e=>row (j:=4) (by decide) q (by show some M.av.ownBlock=_;rw[e])),qad h.yr (λq e=>row (j:=5) (by decide) q (by show some M.yv.ownBlock=_;rw[e])),h.nl,λy t=>(h.gr y t).to (λj k o a e=>⟨e,(h.site a).frozen e,(fam j k (by omega) ((h.site a).frozenG e)).trans ((h.site a).frozen e)⟩),h.fam.to fam (by rw[f];exact Nat.le_refl _) (λk d=>⟨.inl d,by rw[f];exact h.ltF k d⟩),h.ap⟩,qae.setCell _ _ _ rfl⟩;have o:=h.wr;rw[l]at o ⊢;have s:=(o.stored i (.int .i64 x)).1;rw[qt2 _ _ _ hi]at s;exact s
end
end
section
open Go.RowKit
theorem jbn:qbr 1:=λ{w w2 n0 hb b j cap nc Gw G W a na l ns} u h hn hlen ht hne hN hb2=>by
 have R:=(h.hs.later hb2).rw;have r:=h.hs.rw.lt;obtain⟨x,y,rfl⟩:=qpl hlen;simp[qaw,qfy,thB,thC]at ht;obtain⟨k,rfl,D,s,_⟩:=qcq ht.1;obtain⟨o,rfl,L,t,_⟩:=qcq ht.2;obtain⟨g,rfl,M,E,z⟩:=hN.cell 0 _ rfl;obtain⟨g',d,_,_,B⟩:=hN.cell 1 _ rfl;injection d with d;injection d with d;subst d;have N:=hN.cap;have C:=hne rfl _ _ rfl;have m:∀(q:Addr) (v:Value),q.block=g->w2.cell? q=some v->∀w',qba (λq=>q=g) w2 w'->w'.cell? q=some v:=λq v F e w' kp=>(World.cell?_of_block (w:=w2) (a:=q) (kp.block q.block F)).trans e;have O:=m ⟨g,0,none⟩ _ rfl z;have P:=m ⟨g,1,none⟩ _ rfl B;have H:Hid (Calls Tryz.prog 36 #[.pointer (some ⟨b,0,none⟩),.int .i64 k,.int .i64 o] w2.drew λe w'=>e=.returned (.tuple #[])/\qfc w2.drew b Gw (qvm W k o) w'):=q9k w2.drew (R.later (Below.refl _ _).drew) D;have c:Hid (qfb w n0 hb b Gw G W j a cap l/\qc4 1 l=some [(k:Int),(o:Int)]/\Below w.heap.size w w2/\(qbt (k:Int) W.n/\qbt (o:Int) W.n/\(k:Int)≠o)/\g<w2.heap.size/\¬Gw g):=⟨h,hn,hb2,⟨s,t,C⟩,E,λe=>by have:=r g e;omega⟩;have I:qba (λq=>q=g) w2 w2:=qba.refl _ _;have Q:=qbx I;clear h hn hb2 hlen ht hN R s t m z B r hne C
 conv=>arg 2;whnf
 unfold qd1
 go_upto_region 48 with fail
 go_region_held3 (λw'=>qba (λq=>q=g) w2 w') (repeat (first|(with_reducible assumption)|(with_reducible refine qbx ?_))) (first
  |(go_at_call 36
    with_reducible refine H.out.mono ?_
    rintro e J ⟨rfl,p⟩
    have S:qba (λq=>q=g) w2 J:=by
     obtain⟨_,_,_,i⟩:=p;exact⟨i.os,i.tape,i.output,i.size,λq e=>by rw[e];exact i.block g c.out.2.2.2.2.1 c.out.2.2.2.2.2⟩
    have K:Hid _:=c.out.1.fin c.out.2.1 (qab c.out.2.2.1 (Below.refl _ _).drew) ⟨rfl,by rw[if_pos c.out.2.2.2.1];exact⟨rfl,rfl⟩⟩ (λ_=>rfl) p (Below.refl _ _)
    clear p))
 all_goals
  go_wp2
  go_ret2;exact K.out
theorem q88:qbr 11:=λ{w w2 n0 hb b j cap nc Gw G W a na l ns} u h hn hlen ht _ hN hb2=>by
 obtain rfl:=qwa hlen;obtain⟨a0,n,a2,p,a4,q,c0,c2,c4,c5,r⟩:=(h.hs.later hb2).rw.lens;have s:=h.wi.wf.net;have d:Below w.heap.size w ((w2.alloc (.cells #[.int .i64 W.net.length,.int .i64 W.lost] 3)).drew):=(boxed hb2 _).drew
 have i:=qd6 (b:=w2.heap.size) (o:=0) (cap:=2) (l:=[(W.net.length:Int),W.lost]) (by simp) (by simp) (λx k=>by
  simp at k;rcases k with rfl|rfl
  ·exact⟨by omega,by omega⟩
  ·exact h.di.lost) ((w2.alloc (.cells #[.int .i64 W.net.length,.int .i64 W.lost] 3)).drew) (h.gl.later d) (by simp) (qf2 (w:=w2) (T:=3) [(W.net.length:Int),W.lost])
 have m:Hid (∀c,Below ((w2.alloc (.cells #[.int .i64 W.net.length,.int .i64 W.lost] 3)).drew).heap.size ((w2.alloc (.cells #[.int .i64 W.net.length,.int .i64 W.lost] 3)).drew) c->qcw 11 W l w hb G (.returned (.tuple #[.string (bya (qbc [(W.net.length:Int),W.lost])),.int .i64 0])) c):=λc g=>h.tell hn (qab d g) ⟨rfl,rfl,rfl⟩ (λ_=>rfl)
 dsimp only[List.length_cons,List.length_nil,Nat.reduceAdd]at i
 clear h hn hb2 hlen ht hN d c0 c2
 conv=>arg 2;whnf
 unfold qd1
 go_upto_region 60 with fail
 go_region_with (first|(go_at_call 17;refine i.mono ?_;rintro e c ⟨rfl,g⟩))
 all_goals
  go_wp2
  go_ret2;exact m.out _ g
theorem q7a:qbr 13:=λ{w w2 n0 hb b j cap nc Gw G W a na l ns} u h hn hlen ht _ hN hb2=>by
 obtain⟨M,F,R,E⟩:=(h.hs.later hb2).rw;obtain⟨x,key,rfl⟩:=qpl hlen;simp[qaw,qfy,thB,thC]at ht;obtain⟨k,rfl,d,s,_⟩:=qcq ht;obtain⟨g,rfl,H,I,t⟩:=hN.cell 0 _ rfl;obtain⟨g',c,_,_,y⟩:=hN.cell 1 _ rfl;injection c with c;injection c with c;subst c;have J:=hN.cap;have n:=h.wi.wf.at_ k d;have o:=h.wi.wf.inv _ n;obtain⟨K,L,N,O,sg,sa,C⟩:=R.cliAt d n;have p:=qlb (key:=key) (h.di.ses k d) o;have Q:=Later.one;have q:Hid (∀x:Later w2,Calls Tryz.prog 32 #[.pointer (some ⟨M.bs k,0,none⟩),.pointer (some ⟨M.bp (W.at_ k),0,none⟩),.int .i64 key] x.val λe w'=>e=.returned (.tuple #[.string (qb2 (W.S (W.at_ k)) (W.ses k) key).1,.int .i64 (qb2 (W.S (W.at_ k)) (W.ses k) key).2])/\Below x.val.heap.size x.val w'):=λx=>jbp (R.laterW x.below) d n o key;have i:Hid (∀m,Below w2.heap.size w2 m->qcw 13 W l w hb G (.returned (.tuple #[.string (bya ([105,115,32]++(qb2 (W.S (W.at_ k)) (W.ses k) key).1.data.toList)),.int .i64 (qb2 (W.S (W.at_ k)) (W.ses k) key).2])) m):=λm r=>h.tell hn (qab hb2 r) ⟨rfl,by rw[if_pos s];exact⟨rfl,rfl⟩⟩ (λ_=>rfl);obtain⟨⟨v,er⟩,B⟩:∃z,qb2 (W.S (W.at_ k)) (W.ses k) key=z:=⟨_,rfl⟩;rw[B]at p q i
 dsimp only at p q i
 have l0:=Later.cell C.c0;have l2:=Later.cell C.c2;have l3:=Later.cell C.c3;have T:=Later.cell C.x0;have U:=Later.cell C.x2;have V:=Later.cell C.x3;have X:=Later.cell t;have Y:=Later.cell y;have g1:=C.l0;have Z:=C.l2;have g3:=C.l3;have A1:=λw=>qnh (P:=Tryz.prog) ⟨#[105,115,32]⟩ v (by rw[show (⟨#[105,115,32]⟩:ByteArray).size=3 from rfl];omega) w
 have D:Hid (bya ([105,115,32]++v.data.toList)=⟨#[105,115,32]⟩++v):=by
  show _=_;rw[<-qbo]
 rw[D.out]at i;clear h hn hb2 hlen ht hN R s C t y E B p o D
 conv=>arg 2;whnf
 unfold qd1
 go_upto_region 26 with fail
 refine qaa (by kernel_rfl) (by kernel_rfl) ?_
 repeat (go_big_quiet_step (first|rfl|(go_at_call 32;with_reducible exact qac (q.out _))))
 refine wpQuiet_nil ?_;rintro m ⟨⟨_,r⟩,rfl⟩
 go_wp2
 go_ret2;exact i.out _ r
end
section
open Go.RowKit
theorem q6g:qbr 8:=λ{w w2 n0 hb b j cap nc Gw G W a na l ns} u h r hlen ht _ hN hb2=>by
 obtain⟨M,K,R,D⟩:=(h.hs.later hb2).rw;obtain⟨x,y,rfl⟩:=qpl hlen;simp[qaw,qfy,thB,thC]at ht;obtain⟨k,rfl,E,F,_⟩:=qcq ht;obtain⟨g,rfl,ab,T,L⟩:=hN.cell 0 _ rfl;obtain⟨g',z,_,_,N⟩:=hN.cell 1 _ rfl;injection z with z;injection z with z;subst z;have ac:=hN.cap;have d:Hid (qfb w n0 hb b Gw G W j a cap l/\qc4 8 l=some [(k:Int),y]/\Below w.heap.size w w2/\qbt (k:Int) W.n/\∀q,Gw q↔qmp b M (W.n+W.c) K q):=⟨h,r,hb2,F,D⟩;have U:=h.wi.wl k E;by_cases i:0<=y/\y<=1099511627776
 ·have A:=qax (n:=y) (lo:=0) (hi:=1099511627776) (v:=true) (by simp[inB,i.1,i.2]) w2;have m:Hid _:=i;have O:Hid _:=R;clear h r hb2 hlen ht hN F D i R
  conv=>arg 2;whnf
  unfold qd1
  go_wp2_with fail
  refine A.mono ?_;rintro e o ⟨rfl,f⟩;have p:=O.out.laterW f;have N0:=cell_later f L;have N1:=cell_later f N;have hgl3:=Nat.lt_of_lt_of_le T f.size;obtain⟨av,avc,B,ar⟩:=qai p.wr
  obtain⟨H,rfl,hag,P⟩:∃g,av=some ⟨g,0,none⟩/\g<o.heap.size/\∀j u,(qh5 W.wall W.n)[j]?=some u->o.cell? ⟨g,j,none⟩=some u:=by
   rcases ar.held with Q|Q
   ·omega
   ·exact Q
  have d3:=p.box.cell 1 _ rfl;rw[B]at d3;have S:=P _ _ (qkz E);have I:=p.wr;rw[B]at I;have V:=I.frozenAt k;have hal:=ar.len;have bl:=p.box.lt;obtain⟨wl,J⟩:∃wl,W.wall k=wl:=⟨_,rfl⟩;rw[J]at S U;have y1:=m.out.1;have y2:=m.out.2
  have hwz:wrap64 (wl+y)=wl+y:=by unfold wrap64;omega
  have C:Hid (∀v,v=qwi (wl+y)->qcw 8 W l w hb G (.returned (.tuple #[.string (bya (qaj 8)),.int .i64 0])) (o.setCell ⟨H,k,none⟩ (.int .i64 v)).drew):=λv X=>by
   subst X;have s:=p.setWall B E (qwi (wl+y))
   have gf:qak b M H:=by unfold qak qeq;rw[B];simp[Value.ownBlock]
   have Y:qfc o b Gw (qtz W k y) (o.setCell ⟨H,k,none⟩ (.int .i64 (qwi (wl+y)))):=by
        rw[show qtz W k y={W with wall:=qcg W.wall k (qwi (wl+y))} by unfold qtz;rw[J]];exact⟨_,⟨M,K,s.1,d.out.2.2.2.2⟩,λq e=>.inl e,⟨s.2.os,s.2.tape,s.2.output,s.2.size,λq Z r=>s.2.block q Z (λe=>r ((d.out.2.2.2.2 q).2 (.inl (by rw[e];exact gf))))⟩⟩
   exact d.out.1.fin d.out.2.1 (qab d.out.2.2.1 f) ⟨rfl,by rw[if_pos ⟨d.out.2.2.2.1,m.out.1,m.out.2⟩];exact⟨rfl,rfl⟩⟩ (λ_=>rfl) Y (Below.refl _ _).drew
  clear P ar B I p J L N O A f;have aa:=C.out (min 1099511627776 (wl+y)) (by unfold qwi;split<;>omega);clear C
  go_upto_region 46 with fail
  go_region
  all_goals
   clear d3 S V
   go_wp2
   go_ret2;exact aa
 ·have A:=qax (n:=y) (lo:=0) (hi:=1099511627776) (v:=false) (by simp only[inB,Bool.and_eq_false_iff,decide_eq_false_iff_not];omega) w2;have m:Hid _:=i;clear h r hb2 hlen ht hN F D i R
  conv=>arg 2;whnf
  unfold qd1
  go_wp2_with fail
  refine A.mono ?_;rintro e o ⟨rfl,f⟩;have C:Hid _:=d.out.1.tell (told:=[]) (t:=qaj 8) d.out.2.1 (qab d.out.2.2.1 f) ⟨rfl,by rw[if_neg (λe=>m.out e.2)];exact⟨rfl,rfl⟩⟩ (λe=>by cases e);clear A f
  go_wp2
  go_ret2;exact C.out
variable {w:World} {b:Nat} {G:Nat->Prop}
theorem RSe.openAt {s:qbn} (h:RSe w b G s):w.cell? ⟨b,8,none⟩=some (.bool s.opn)/\b<w.heap.size:=⟨h.snap.2.2.2.2.1,h.snap.2.2.2.2.2⟩
theorem q57:qbr 12:=λ{w w2 n0 hb b j cap nc Gw G W a na l ns} u h z hlen ht _ hN hb2=>by
 obtain⟨M,H,R,I⟩:=(h.hs.later hb2).rw;obtain⟨x,y,rfl⟩:=qpl hlen;simp[qaw,qfy,thB,thC]at ht;obtain⟨k,rfl,p,J,_⟩:=qcq ht.1;obtain⟨o,rfl,ho,K,_⟩:=qcq ht.2;obtain⟨g,rfl,hgB,U,D⟩:=hN.cell 0 _ rfl;obtain⟨g',r,_,_,L⟩:=hN.cell 1 _ rfl;injection r with r;injection r with r;subst r;have hcap:=hN.cap;have V:=h.wi.wf.at_ k p;obtain⟨cg,ca,A,aa,sg,sa,C⟩:=R.cliAt p V;obtain⟨N,hbs⟩:=(R.sess p).openAt;have hne:=Later.one;have d:Hid (qfb w n0 hb b Gw G W j a cap l/\qc4 12 l=some [(k:Int),(o:Int)]/\Below w.heap.size w w2/\(qbt (k:Int) W.c/\qbt (o:Int) W.n)/\∀q,Gw q↔qmp b M (W.n+W.c) H q):=⟨h,z,hb2,⟨J,K⟩,I⟩;have O:Hid _:=R;have l2:=Later.cell C.c2;have P:=Later.cell C.x2;have Q:=Later.cell D;have p0:=Later.cell N;have g2:=C.l2;clear h z hb2 hlen ht hN J K I R C N;cases hop:(W.ses k).opn with
 |true=>
  have B:Hid _:=hop;rw[hop]at p0;clear hop
  conv=>arg 2;whnf
  unfold qd1
  go_upto_region 40 with fail
  refine qaa (by kernel_rfl) (by kernel_rfl) ?_
  repeat (go_big_quiet_step (first|rfl|fail))
  refine wpQuiet_nil ?_;rintro i ⟨⟨_,f⟩,rfl⟩;have E:Hid _:=d.out.1.tell (told:=[]) (t:=qaj 12) d.out.2.1 (qab d.out.2.2.1 f) ⟨rfl,by rw[if_pos d.out.2.2.2.1];unfold qm1 qrt;rw[show ((k:Int)).toNat=k from rfl,B.out];exact⟨rfl,rfl⟩⟩ (λe=>by cases e);clear l2 P Q p0 f
  go_wp2
  go_ret2;exact E.out
 |false=>
  have B:Hid _:=hop;rw[hop]at p0;clear hop
  conv=>arg 2;whnf
  unfold qd1
  go_upto_region 40 with fail
  refine qaa (by kernel_rfl) (by kernel_rfl) ?_
  repeat (go_big_quiet_step (first|rfl|fail))
  refine wpQuiet_nil ?_;rintro i ⟨⟨_,f⟩,rfl⟩;have m:=O.out.laterW f;have N0:=cell_later f D;have N1:=cell_later f L;have hgl3:=Nat.lt_of_lt_of_le U f.size;obtain⟨av,avc,v,ar⟩:=qai m.ar
  obtain⟨A,rfl,hag,S⟩:∃g,av=some ⟨g,0,none⟩/\g<i.heap.size/\∀j u,(qh5 (λk=>(W.at_ k:Int)) W.c)[j]?=some u->i.cell? ⟨g,j,none⟩=some u:=by
   rcases ar.held with T|T
   ·omega
   ·exact T
  have d3:=m.box.cell 3 _ rfl;rw[v]at d3;have X:=S _ _ (qkz p);have F:=m.ar;rw[v]at F;have Y:=F.frozenAt k;have hal:=ar.len;have bl:=m.box.lt
  have E:Hid (qcw 12 W l w hb G (.returned (.tuple #[.string (bya (qaj 12)),.int .i64 0])) (i.setCell ⟨A,k,none⟩ (.int .i64 o)).drew):=by
   have s:=m.setAt v p o
   have gf:qak b M A:=by unfold qak qeq;rw[v];simp[Value.ownBlock]
   have Z:qfc i b Gw (qm1 W k o) (i.setCell ⟨A,k,none⟩ (.int .i64 o)):=by
        rw[show qm1 W k o={W with at_:=qcg W.at_ k o} by unfold qm1;rw[B.out];rfl];exact⟨_,⟨M,H,s.1,d.out.2.2.2.2⟩,λq e=>.inl e,⟨s.2.os,s.2.tape,s.2.output,s.2.size,λq hq z=>s.2.block q hq (λe=>z ((d.out.2.2.2.2 q).2 (.inl (by rw[e];exact gf))))⟩⟩
   exact d.out.1.fin d.out.2.1 (qab d.out.2.2.1 f) ⟨rfl,by rw[if_pos d.out.2.2.2.1];exact⟨rfl,by unfold qrt;rw[show ((k:Int)).toNat=k from rfl,B.out];rfl⟩⟩ (λ_=>rfl) Z (Below.refl _ _).drew
  clear S ar v F m D L O f l2 P Q p0
  go_upto_region 42 with fail
  go_region
  all_goals
   clear d3 X Y
   go_wp2
   go_ret2;exact E.out
theorem jdk {w2 d:World} {s hb j cap nb n c:Nat} {Gw m:Nat->Prop} {W:WoS} {a:Option Addr} {l:List ByteArray} (h:qfb w s hb b Gw G W j a cap l) (t:qc4 17 l=some [(n:Int),(c:Int)]) (f:Below w.heap.size w w2) (r:qpz w2 hb b Gw W) (u:RW d nb m (qhk n c)) (o:∀k,m k->w2.heap.size<=k) (i:Below w2.heap.size w2 d) (v:(1<=(n:Int)/\(n:Int)<=4)/\(0<=(c:Int)/\(c:Int)<=6)):
 qcw 17 W l w hb G (.returned (.tuple #[.string (bya (qaj 17)),.int .i64 0])) (d.setCell ⟨hb,0,none⟩ (.pointer (some ⟨nb,0,none⟩))):=by
 have l2:=r.lt;have x:=(r.later i).box;have ne:∀k,k≠hb->(d.setCell ⟨hb,0,none⟩ (.pointer (some ⟨nb,0,none⟩))).heap[k]?=d.heap[k]?:=λk p=>Below.heap_setCell _ _ _ _ p
 have sz:(d.setCell ⟨hb,0,none⟩ (.pointer (some ⟨nb,0,none⟩))).heap.size=d.heap.size:=by simp[World.setCell]
 refine⟨_,0,rfl,qhk n c,qaj 17,qj4.yes t ⟨rfl,by rw[if_pos v];exact⟨rfl,rfl⟩⟩,λ_=>rfl,λk=>k=hb\/m k,⟨nb,m,⟨by simp[World.setCell,Array.getElem?_modify,x],u.kept (λk e=>ne k (λq=>by have:=o k e;omega)) (by rw[sz];exact Nat.le_refl _),λe=>by have:=o hb e;omega⟩,λ_=>Iff.rfl⟩,λk e=>?_,?_⟩
 ·rcases e with rfl|e
  ·exact .inl ((h.g k).2 (.inl rfl))
  ·exact .inr (Nat.le_trans f.size (o k e))
 ·have s2:=f.size;exact⟨i.os.trans f.os,i.tape.trans f.tape,i.output.trans f.output,by rw[sz];exact Nat.le_trans s2 i.size,λk p y=>(ne k (λq=>y ((h.g k).2 (.inl q)))).trans ((i.block k (by omega)).trans (f.block k p))⟩
theorem q32:qbr 17:=λ{w w2 n0 hb b j cap nc Gw G W a na l ns} u h hn hlen ht _ hN hb2=>by
 have v:=h.hs.later hb2;obtain⟨x,y,rfl⟩:=qpl hlen;obtain⟨g,rfl,K,L,z⟩:=hN.cell 0 _ rfl;obtain⟨g',m,_,_,A⟩:=hN.cell 1 _ rfl;injection m with m;injection m with m;subst m;have M:=hN.cap;have d:Hid (qfb w n0 hb b Gw G W j a cap l/\qc4 17 l=some [x,y]/\Below w.heap.size w w2/\qpz w2 hb b Gw W):=⟨h,hn,hb2,v⟩;have N:=v.lt;have I:=λ(w':World) (h:Below w2.heap.size w2 w')=>cell_later h z;have J:=λ(w':World) (h:Below w2.heap.size w2 w')=>cell_later h A;clear h hn hb2 hlen ht hN v;by_cases o:(1<=x/\x<=4)/\(0<=y/\y<=6)
 ·obtain⟨n,rfl,n1,n4⟩:∃n:Nat,x=n/\1<=n/\n<=4:=⟨x.toNat,by omega,by omega,by omega⟩;obtain⟨c,rfl,c6⟩:∃c:Nat,y=c/\c<=6:=⟨y.toNat,by omega,by omega⟩;have r:=q9h n1 n4 c6 w2.drew;have B:Hid _:=o;clear o z A
  conv=>arg 2;whnf
  unfold qd1
  go_upto_region 19 with fail
  go_region_held3 (λw'=>Below w2.heap.size w2 w') ((repeat (first|(with_reducible assumption)|(with_reducible refine Below.drew ?_)|(with_reducible exact Below.refl _ _)))) (first
   |(go_at_call 15
     with_reducible refine r.mono ?_
     rintro e i ⟨rfl,D,E,F,p⟩;have s:Below w2.heap.size w2 i:=qab (Below.refl _ _).drew p;have q:Hid (RW i (w2.drew.heap.size+1+1) D (qhk n c)/\(∀k,D k->w2.heap.size<=k)/\Below w2.heap.size w2 i):=⟨E,F,s⟩
     clear E F p))
  all_goals
   have H:=(d.out.2.2.2.later q.out.2.2).box;have O:i.cell? ⟨hb,0,none⟩=some (.pointer (some ⟨b,0,none⟩)):=(d.out.2.2.2.later q.out.2.2).cell;have P:i.frozen? ⟨hb,0,none⟩=false:=Lib.frozen_of_heap H 0;have C:Hid (qcw 17 W l w hb G (.returned (.tuple #[.string (bya (qaj 17)),.int .i64 0])) (i.setCell ⟨hb,0,none⟩ (.pointer (some ⟨w2.heap.size+1+1,0,none⟩)))):=jdk d.out.1 d.out.2.1 d.out.2.2.1 d.out.2.2.2 q.out.1 q.out.2.1 q.out.2.2 B.out;clear H r I J s
   go_wp2
   go_ret2;exact C.out
 ·have r:=q5n o w2.drew;have B:Hid _:=o;clear o z A
  conv=>arg 2;whnf
  unfold qd1
  go_upto_region 19 with fail
  go_region_held3 (λw'=>Below w2.heap.size w2 w') ((repeat (first|(with_reducible assumption)|(with_reducible refine Below.drew ?_)|(with_reducible exact Below.refl _ _)))) (first
   |(go_at_call 15
     with_reducible refine r.mono ?_
     rintro e i ⟨rfl,p⟩;have s:Below w2.heap.size w2 i:=qab (Below.refl _ _).drew p;have C:Hid _:=d.out.1.tell (told:=[]) (t:=qaj 17) d.out.2.1 (qab d.out.2.2.1 s) ⟨rfl,by rw[if_neg B.out];exact⟨rfl,rfl⟩⟩ (λe=>by cases e)
     clear p))
  all_goals
   go_wp2
   go_ret2;exact C.out
end
section
open Go.Value Go.IntKind Go.RowKit
variable {w:World} {b:Nat}
theorem RSe.row {G:Nat->Prop} {s:qbn} (h:RSe w b G s):∃wv,qag w b (qbw s wv):=by
 obtain⟨wv,h,_⟩:=h;exact⟨wv,h.box⟩
theorem q2x {o:Nat} {a:List Value} {p0 p1 p2 p3:Int} (R:qag w b a) (h:∀(q:Nat) x,[p0,p1,p2,p3][q]?=some x->a[o+q]?=some (int i64 x)) (c:∀x∈[p0,p1,p2,p3],wfI x) (w':World) (g:Gl w') (hb:Below w.heap.size w w'):
 Calls Tryz.prog 17 #[.slice (some ⟨b,o,none⟩) 4 4] w' λe w2=>e=.returned (.string (bya (qbc [p0,p1,p2,p3])))/\Below w'.heap.size w' w2:=
 qd6 (b:=b) (o:=o) (cap:=4) (l:=[p0,p1,p2,p3]) (by simp) (by simp) c w' g (Nat.lt_of_lt_of_le R.lt hb.size) (λq x d=>(R.later hb).cell _ _ (h q x d))
theorem q0n:qbr 4:=λ{w w2 n0 hb b j cap nc Gw G W a na l ns} u h hn hlen ht _ hN hb2=>by
 obtain⟨M,Gs,R,hG⟩:=(h.hs.later hb2).rw;obtain⟨x,rfl⟩:=qlx hlen;simp[qaw,qfy,thB,thC]at ht;obtain⟨k,rfl,B,S,_⟩:=qcq ht;obtain⟨g,rfl,hgB,hgl,H⟩:=hN.cell 0 _ rfl;have hcap:=hN.cap;have ha:=h.wi.wf.at_ k B;have h4:=h.wi.wf.n4;obtain⟨cg,ca,ag,aa,sg,sa,C⟩:=R.cliAt B ha;obtain⟨wv,p⟩:=(R.sess B).row;have i:=h.di.ses k B;have hne:=Later.one;have D:Hid (qv5 W k=qbc [(W.at_ k:Int)]++[44,32]++qbc [(W.ses k).p0,(W.ses k).p1,(W.ses k).p2,(W.ses k).p3]++if (W.ses k).opn=true then [44,32]++qbc [(W.ses k).s0,(W.ses k).s1,(W.ses k).s2,(W.ses k).s3]else []):=rfl;have v:Hid (∀w',Below w.heap.size w w'->qcw 4 W l w hb G (.returned (.tuple #[.string (bya (qv5 W k)),int i64 0])) w'):=λw' hb'=>h.tell hn hb' ⟨rfl,by rw[if_pos S];exact⟨rfl,rfl⟩⟩ (λ_=>rfl);obtain⟨⟨p0,p1,p2,p3,opn,s0,s1,s2,s3,ws⟩,U⟩:∃s,W.ses k=s:=⟨_,rfl⟩;rw[U]at p i D
 dsimp only at D
 rw[D.out]at v
 have V:∀x∈[p0,p1,p2,p3],wfI x:=λx c=>by
  simp at c;rcases c with rfl|rfl|rfl|rfl
  ·exact qbm i.p0
  ·exact qbm i.p1
  ·exact qbm i.p2
  ·exact qbm i.p3
 have X:∀x∈[s0,s1,s2,s3],wfI x:=λx c=>by
  simp at c;rcases c with rfl|rfl|rfl|rfl
  ·exact qbm i.s0
  ·exact qbm i.s1
  ·exact qbm i.s2
  ·exact qbm i.s3
 have Y:Hid ((∀x∈[p0,p1,p2,p3],wfI x)/\(∀x∈[s0,s1,s2,s3],wfI x)/\qag w2 (M.bs k) [int i64 p0,int i64 p1,int i64 p2,int i64 p3,int i64 s0,int i64 s1,int i64 s2,int i64 s3,.bool opn,wv]/\Gl w2/\Below w.heap.size w w2):=⟨V,X,p,h.gl.later hb2,hb2⟩;have l2:=Later.cell C.c2;have m2:=Later.cell C.x2;have y0:=Later.cell H;have g2:=C.l2;have g3:=C.l3;have Z:=C.c3;have f3:=C.x3;clear h hn hb2 hlen ht hN R S C hG i p U V X D
 conv=>arg 2;whnf
 unfold qd1
 go_upto_region 65 with fail
 refine qaa (by kernel_rfl) (by kernel_rfl) ?_
 repeat (go_big_quiet_step (first|rfl|fail))
 refine wpQuiet_nil ?_;rintro d ⟨⟨_,m⟩,rfl⟩;obtain⟨I,J,p,E,ab⟩:=Y.out;have r:=p.later m;have n0':=cell_later m H;have e3':=cell_later m Z;have f3':=cell_later m f3;have c8:=r.cell 8 _ rfl;have ac:=qab ab m;have K:Below d.heap.size d ((d.alloc (.cells #[int i64 (W.at_ k:Int)] 3)).drew):=(boxed (Below.refl _ d) _).drew;have L:=qd6 (b:=d.heap.size) (o:=0) (cap:=1) (l:=[(W.at_ k:Int)]) (by simp) (by simp) (λx c=>by simp at c;subst c;exact⟨by omega,by omega⟩) ((d.alloc (.cells #[int i64 (W.at_ k:Int)] 3)).drew) ((E.later m).later K) (by simp) (qf2 (w:=d) (T:=3) [(W.at_ k:Int)])
 dsimp only[List.length_cons,List.length_nil,Nat.reduceAdd]at L
 have N:Hid (∀w',Below d.heap.size d w'->Calls Tryz.prog 17 #[.slice (some ⟨M.bs k,0,none⟩) 4 4] w' λe w2=>e=.returned (.string (bya (qbc [p0,p1,p2,p3])))/\Below w'.heap.size w' w2):=λw' y=>q2x (o:=0) r (λq x c=>by match q,c with|0,c=>exact(by simpa using c)|1,c=>exact(by simpa using c)|2,c=>exact(by simpa using c)|3,c=>exact(by simpa using c)) I w' ((E.later m).later y) y;have O:Hid (∀w',Below d.heap.size d w'->Calls Tryz.prog 17 #[.slice (some ⟨M.bs k,4,none⟩) 4 4] w' λe w2=>e=.returned (.string (bya (qbc [s0,s1,s2,s3])))/\Below w'.heap.size w' w2):=λw' y=>q2x (o:=4) r (λq x c=>by match q,c with|0,c=>exact(by simpa using c)|1,c=>exact(by simpa using c)|2,c=>exact(by simpa using c)|3,c=>exact(by simpa using c)) J w' ((E.later m).later y) y
 have l1:(qbc [(W.at_ k:Int)]).length<=22:=by have:=qb7 (l:=[(W.at_ k:Int)]) (λx c=>by simp at c;subst c;exact⟨by omega,by omega⟩);simpa using this
 have ll2:(qbc [p0,p1,p2,p3]).length<=88:=by have:=qb7 I;simpa using this
 have ll3:(qbc [s0,s1,s2,s3]).length<=88:=by have:=qb7 J;simpa using this
 have A1:=λw=>qnh (P:=Tryz.prog) (bya (qbc [(W.at_ k:Int)])) ⟨#[44,32]⟩ (by simp[qcc];omega) w;have A2:=λw=>qnh (P:=Tryz.prog) (bya (qbc [(W.at_ k:Int)])++⟨#[44,32]⟩) (bya (qbc [p0,p1,p2,p3])) (by simp[qcc];omega) w;have A3:=λw=>qnh (P:=Tryz.prog) ⟨#[44,32]⟩ (bya (qbc [s0,s1,s2,s3])) (by simp[qcc];omega) w;have A4:=λw=>qnh (P:=Tryz.prog) (bya (qbc [(W.at_ k:Int)])++⟨#[44,32]⟩++bya (qbc [p0,p1,p2,p3])) (⟨#[44,32]⟩++bya (qbc [s0,s1,s2,s3])) (by simp[qcc];omega) w;have Q:Hid (Below w.heap.size w d/\qag d (M.bs k) [int i64 p0,int i64 p1,int i64 p2,int i64 p3,int i64 s0,int i64 s1,int i64 s2,int i64 s3,.bool opn,wv]):=⟨ac,r⟩;have bsl:=r.lt;have hgl3:=Nat.lt_of_lt_of_le hgl m.size;clear l1 ll2 ll3 I J p E ab r H Z f3 y0 l2 m2 Y m ac
 go_upto_region 66 with fail
 go_region_with (first|(go_at_call 17;(with_reducible refine L.mono ?_);rintro e w4 ⟨rfl,hb4⟩;have hb43:Below d.heap.size d w4:=qab K hb4;have BL2:=N.out w4 hb43)|(go_at_call 17;(with_reducible refine BL2.mono ?_);rintro e F ⟨rfl,hb5⟩;have z:Below d.heap.size d F:=qab hb43 hb5))
 all_goals
  have c8':F.cell? ⟨M.bs k,8,none⟩=some (.bool opn):=(Q.out.2.later z).cell 8 _ rfl;have bsl5:=Nat.lt_of_lt_of_le bsl z.size;clear L BL2 K n0' e3' f3' c8;cases opn
  ·have n:=v.out F (qab Q.out.1 z);rw[if_neg (by simp)]at n
   rw[show bya (qbc [(W.at_ k:Int)]++[44,32]++qbc [p0,p1,p2,p3]++[])=bya (qbc [(W.at_ k:Int)])++⟨#[44,32]⟩++bya (qbc [p0,p1,p2,p3]) by
        rw[show (⟨#[44,32]⟩:ByteArray)=bya [44,32]from rfl,qbo,qbo];simp]at n
   clear N O v A1 A2 A3 A4
   go_wp2
   go_ret2;exact n
  ·have BL3:=O.out F z
   go_wp2_with fail
   refine BL3.mono ?_;rintro e w6 ⟨rfl,hb6⟩;have n:=v.out w6 (qab (qab Q.out.1 z) hb6);rw[if_pos (by trivial)]at n
   rw[show bya (qbc [(W.at_ k:Int)]++[44,32]++qbc [p0,p1,p2,p3]++([44,32]++qbc [s0,s1,s2,s3]))=bya (qbc [(W.at_ k:Int)])++⟨#[44,32]⟩++bya (qbc [p0,p1,p2,p3])++(⟨#[44,32]⟩++bya (qbc [s0,s1,s2,s3])) by
        rw[show (⟨#[44,32]⟩:ByteArray)=bya [44,32]from rfl,qbo,qbo,qbo,qbo]]at n
   clear N O v BL3
   go_wp2
   go_ret2;exact n
end
section
open Go.Value Go.IntKind Go.RowKit
variable {S:qaf}
theorem RS.lens {w:World} {b:Nat} {G:Nat->Prop} {F:Nat->Option Obj} (h:RS w b G F S):∃a c e f,w.cell? ⟨b,8,none⟩=some (.slice a S.waits.length c)/\w.cell? ⟨b,9,none⟩=some (.slice e S.l.length f):=by
 obtain⟨lv,wv,sv,log,waits,d,n,i,_⟩:=h;obtain⟨a,c,j,_⟩:=qai d.rwait;obtain⟨e,f,k,_⟩:=qai d.own;have g:=d.box.cell 8 _ rfl;have c9:=d.box.cell 9 _ rfl
 have m:waits.length=S.waits.length:=by rw[<-i];simp
 rw[j,m]at g;rw[k]at c9;exact⟨a,c,e,f,g,c9⟩
def q1s (S:qaf):List ByteArray:=(List.range 8).map (λ(q:Nat)=>qhh S.a0 S.a1 S.a2 S.a3 S.l q)
theorem qq7 (S:qaf):(q1s S).map (·.data.toList)=qej S:=by unfold q1s qej;rw[List.map_map];rfl
theorem q3t {w':World} {B:Nat} {v:Value} (h:w'.ownsRow B 9 1 v 8 (qhj S.a0 S.a1 S.a2 S.a3 S.l 8)) (hs:∀x∈q1s S,x.data.toList.length<=13):∃b c,v=.slice (some ⟨b,0,none⟩) 8 c/\Calls Tryz.prog 42 #[.slice (some ⟨b,0,none⟩) 8 c,.string ⟨#[32]⟩] w' λe w2=>e=.returned (.string (bya (Lib.join (qej S) [32])))/\Below w'.heap.size w' w2:=by
 obtain⟨b,c,rfl,r,i⟩:=h.form (by decide);have j:=h.cells (g:=b) rfl
 have k:8<=c:=by
  rcases h.2 with ⟨h,_⟩|⟨g',s,cur,m,_,_,n,_⟩
  ·cases h
  ·cases m;exact n
 have d:(q1s S).length=8:=by simp[q1s]
 have J:=Tryz.strings_Join b 0 c (q1s S) ⟨#[32]⟩ w' (λq y a=>by
  rw[Nat.zero_add]
  have:=j q (.string y) (by unfold qhj;unfold q1s at a;rw[List.getElem?_map]at a ⊢;cases hq:(List.range 8)[q]?with
   |none=>rw[hq]at a;cases a
   |some z=>rw[hq]at a;injection a with a;subst a;rfl)
  rcases Nat.eq_zero_or_pos q with rfl|o
  ·simpa[Addr.add]using this
  ·simpa[Addr.add,Nat.ne_of_gt o]using this) i (by rw[d];decide) (by rw[d];exact k) (by
   have:=qim 13 ((q1s S).map (·.data.toList)) (λy a=>by obtain⟨x,p,rfl⟩:=List.mem_map.1 a;exact hs x p);rw[List.length_map,d]at this
   exact Nat.le_trans this (by decide))
 rw[d]at J;rw[show (⟨#[32]⟩:ByteArray).data.toList=[32]from rfl,qq7]at J;exact⟨b,c,rfl,J⟩
theorem q6q:qbr 14:=λ{w w2 n0 hb b j cap nc Gw G W a na l ns} u h hn hlen ht _ hN hb2=>by
 obtain⟨M,Gs,R,hG⟩:=(h.hs.later hb2).rw;obtain⟨x,rfl⟩:=qlx hlen;simp[qaw,qfy,thB,thC]at ht;obtain⟨k,rfl,n,hth,_⟩:=qcq ht;obtain⟨g,rfl,hgB,hgl,q0⟩:=hN.cell 0 _ rfl;have hcap:=hN.cap;obtain⟨sg,sa,c0,l0,hsgl,xs⟩:=R.sitesAt n;have x0:=xs k n;have m:=h.wi.wf.inv k n;have hwt:=h.wi.wf.wt k n;have hlen2:=m.len;have hlog:=m.log;have hne:=Later.one;have HF0:Hid (∀w',Below w.heap.size w w'->qcw 14 W l w hb G (.returned (.tuple #[.string (bya (qn2 (W.S k))),int i64 0])) w'):=λw' N=>h.tell hn N ⟨rfl,by rw[if_pos hth];exact⟨rfl,rfl⟩⟩ (λ_=>rfl);have HW:Hid (RWo w2 b M W Gs/\Gl w2/\Below w.heap.size w w2/\qcx (W.S k)):=⟨R,h.gl.later hb2,hb2,m⟩;have L0:=Later.cell c0;have L1:=Later.cell x0;have L2:=Later.cell q0
 have hk4:k<4:=by have:=h.wi.wf.n4;omega
 clear h hn hb2 hlen ht hN R hth hG xs m
 conv=>arg 2;whnf
 unfold qd1
 go_upto_region 62 with fail
 refine qaa (by kernel_rfl) (by kernel_rfl) ?_
 repeat (go_big_quiet_step (first|rfl|fail))
 refine wpQuiet_nil ?_;rintro c ⟨⟨_,C⟩,rfl⟩;obtain⟨R,g0,hbw,m⟩:=HW.out;have D:=(R.laterW C).site n;obtain⟨O,Q,U,V,bpl⟩:=D.applied;obtain⟨wa,wc,va,vc,b8,b9⟩:=D.lens;have E:=g0.later C
 have X:∀x∈[(W.S k).a0,(W.S k).a1,(W.S k).a2,(W.S k).a3],wfI x:=λx d=>by
  simp at d;rcases d with rfl|rfl|rfl|rfl
  ·exact qbm m.a0
  ·exact qbm m.a1
  ·exact qbm m.a2
  ·exact qbm m.a3
 have F:∀x∈[((W.S k).waits.length:Int),((W.S k).l.length:Int)],wfI x:=λx d=>by
  simp at d;rcases d with rfl|rfl
  ·exact⟨by omega,by omega⟩
  ·exact⟨by omega,by omega⟩
 have Y:∀x∈q1s (W.S k),x.data.toList.length<=13:=λx d=>by
  obtain⟨q,_,rfl⟩:=List.mem_map.1 d;exact qpj m.ok
 have H:Hid (∀w',Below c.heap.size c w'->Calls Tryz.prog 17 #[.slice (some ⟨M.bp k,1,none⟩) 4 4] w' λe w2=>e=.returned (.string (bya (qbc [(W.S k).a0,(W.S k).a1,(W.S k).a2,(W.S k).a3])))/\Below w'.heap.size w' w2):=λw' i=>
  qd6 (b:=M.bp k) (o:=1) (cap:=4) (l:=[(W.S k).a0,(W.S k).a1,(W.S k).a2,(W.S k).a3]) (by simp) (by simp) X w' (E.later i) (Nat.lt_of_lt_of_le bpl i.size) (λq x d=>by
   match q,d with
   |0,d=>injection d with d;subst d;exact cell_later i O
   |1,d=>injection d with d;subst d;exact cell_later i Q
   |2,d=>injection d with d;subst d;exact cell_later i U
   |3,d=>injection d with d;subst d;exact cell_later i V)
 have Z:Hid (∀w',Below c.heap.size c w'->Calls Tryz.prog 17 #[.slice (some ⟨w'.heap.size,0,none⟩) 2 2] (w'.alloc (.cells #[int i64 ((W.S k).waits.length:Int),int i64 ((W.S k).l.length:Int)] 3)) λe w2=>e=.returned (.string (bya (qbc [((W.S k).waits.length:Int),((W.S k).l.length:Int)])))/\Below (w'.alloc (.cells #[int i64 ((W.S k).waits.length:Int),int i64 ((W.S k).l.length:Int)] 3)).heap.size (w'.alloc (.cells #[int i64 ((W.S k).waits.length:Int),int i64 ((W.S k).l.length:Int)] 3)) w2):=λw' i=>
  qd6 (b:=w'.heap.size) (o:=0) (cap:=2) (l:=[((W.S k).waits.length:Int),((W.S k).l.length:Int)]) (by simp) (by simp) F _ (E.later (boxed i _)) (by simp) (qf2 (w:=w') (T:=3) [((W.S k).waits.length:Int),((W.S k).l.length:Int)])
 have aa:Below c.heap.size c (c.alloc (.cells #[int i64 ((W.S k).waits.length:Int),int i64 ((W.S k).l.length:Int)] 3)).drew:=(boxed (Below.refl _ c) _).drew;have hd3:Below c.heap.size c c.drew:=(Below.refl _ c).drew
 have ab:Hid (∀w',Below (c.alloc (.cells #[int i64 ((W.S k).waits.length:Int),int i64 ((W.S k).l.length:Int)] 3)).drew.heap.size (c.alloc (.cells #[int i64 ((W.S k).waits.length:Int),int i64 ((W.S k).l.length:Int)] 3)).drew w'->Calls Tryz.prog 17 #[.slice (some ⟨c.heap.size,0,none⟩) 2 2] w' λe w2=>e=.returned (.string (bya (qbc [((W.S k).waits.length:Int),((W.S k).l.length:Int)])))/\Below w'.heap.size w' w2):=λw' i=>
  qd6 (b:=c.heap.size) (o:=0) (cap:=2) (l:=[((W.S k).waits.length:Int),((W.S k).l.length:Int)]) (by simp) (by simp) F _ (E.later (qab aa i)) (Nat.lt_of_lt_of_le (by simp) i.size) (λq x d=>cell_later i (qf2 (w:=c) (T:=3) [((W.S k).waits.length:Int),((W.S k).l.length:Int)] q x d))
 have TD:Hid (∀w',Below c.heap.size c w'->Calls Tryz.prog 43 #[.pointer (some ⟨M.bp k,9,none⟩),.agg #[int i64 (W.S k).a0,int i64 (W.S k).a1,int i64 (W.S k).a2,int i64 (W.S k).a3]] w' λe w2=>∃p r,e=.returned (.slice (some ⟨p,0,none⟩) 8 r)/\Hid (Calls Tryz.prog 42 #[.slice (some ⟨p,0,none⟩) 8 r,.string ⟨#[32]⟩] w2 λe c=>e=.returned (.string (bya (Lib.join (qej (W.S k)) [32])))/\Below w2.heap.size w2 c)/\Below w'.heap.size w' w2):=λw' i=>
  (q5z (W.S k).a0 (W.S k).a1 (W.S k).a2 (W.S k).a3 w' (D.later i) m).mono λe w2 ⟨v,he,ho,hb⟩=>by
   obtain⟨p,r,rfl,J⟩:=q3t ho Y;exact⟨p,r,he,J,hb⟩
 have l1:(qbc [(W.S k).a0,(W.S k).a1,(W.S k).a2,(W.S k).a3]).length<=88:=by have:=qb7 X;simpa using this
 have l2:(qbc [((W.S k).waits.length:Int),((W.S k).l.length:Int)]).length<=44:=by have:=qb7 F;simpa using this
 have l3:(Lib.join (qej (W.S k)) [32]).length<=112:=by
  have:=qim 13 ((q1s (W.S k)).map (·.data.toList)) (λy hy=>by obtain⟨x,d,rfl⟩:=List.mem_map.1 hy;exact Y x d);rw[List.length_map,show (q1s (W.S k)).length=8 by simp[q1s],qq7]at this;exact this
 have z:Hid (∀w',Below w.heap.size w w'->qcw 14 W l w hb G (.returned (.tuple #[.string (bya (qbc [(W.S k).a0,(W.S k).a1,(W.S k).a2,(W.S k).a3])++⟨#[44,32]⟩++bya (qbc [((W.S k).waits.length:Int),((W.S k).l.length:Int)])++⟨#[44,32]⟩++bya (Lib.join (qej (W.S k)) [32])),int i64 0])) w'):=λw' N=>by
  have:=HF0.out w' N
  rw[show bya (qn2 (W.S k))=bya (qbc [(W.S k).a0,(W.S k).a1,(W.S k).a2,(W.S k).a3])++⟨#[44,32]⟩++bya (qbc [((W.S k).waits.length:Int),((W.S k).l.length:Int)])++⟨#[44,32]⟩++bya (Lib.join (qej (W.S k)) [32]) by
   rw[show (⟨#[44,32]⟩:ByteArray)=bya [44,32]from rfl,qbo,qbo,qbo,qbo];rfl]at this
  exact this
 obtain⟨s1,hs1⟩:∃s,bya (qbc [(W.S k).a0,(W.S k).a1,(W.S k).a2,(W.S k).a3])=s:=⟨_,rfl⟩;obtain⟨s2,hs2⟩:∃s,bya (qbc [((W.S k).waits.length:Int),((W.S k).l.length:Int)])=s:=⟨_,rfl⟩;obtain⟨s3,hs3⟩:∃s,bya (Lib.join (qej (W.S k)) [32])=s:=⟨_,rfl⟩
 have z1:s1.size<=88:=by rw[<-hs1,qcc];exact l1
 have z2:s2.size<=44:=by rw[<-hs2,qcc];exact l2
 have z3:s3.size<=112:=by rw[<-hs3,qcc];exact l3
 have zc:(⟨#[44,32]⟩:ByteArray).size=2:=rfl;have A1:=λw=>qnh (P:=Tryz.prog) s1 ⟨#[44,32]⟩ (by omega) w;have A2:=λw=>qnh (P:=Tryz.prog) (s1++⟨#[44,32]⟩) s2 (by rw[ByteArray.size_append];omega) w;have A3:=λw=>qnh (P:=Tryz.prog) (s1++⟨#[44,32]⟩++s2) ⟨#[44,32]⟩ (by rw[ByteArray.size_append,ByteArray.size_append];omega) w;have A4:=λw=>qnh (P:=Tryz.prog) (s1++⟨#[44,32]⟩++s2++⟨#[44,32]⟩) s3 (by rw[ByteArray.size_append,ByteArray.size_append,ByteArray.size_append];omega) w;rw[hs1]at H z;rw[hs2]at Z ab z;rw[hs3]at TD z;have HX:Hid (Below w.heap.size w c):=qab hbw C;clear l1 l2 l3 X F Y HF0 R g0 hbw m D E HW L0 L1 L2 c0 x0 q0 C hs1 hs2 hs3 z1 z2 z3 zc
 go_upto_region 63 with fail
 have X1:=λ(w':World) (h:Below c.heap.size c w')=>cell_later h O;have X2:=λ(w':World) (h:Below c.heap.size c w')=>cell_later h Q;have X3:=λ(w':World) (h:Below c.heap.size c w')=>cell_later h U;have X4:=λ(w':World) (h:Below c.heap.size c w')=>cell_later h V;have X8:=λ(w':World) (h:Below c.heap.size c w')=>cell_later h b8;have X9:=λ(w':World) (h:Below c.heap.size c w')=>cell_later h b9;clear O Q U V b8 b9
 go_region_held3 (λw'=>Below c.heap.size c w') ((repeat (first|(with_reducible assumption)|(with_reducible refine boxed ?_ _)|(with_reducible refine Below.drew ?_)|(with_reducible exact Below.refl _ _)))) (first
  |(go_at_call 17;(with_reducible refine(H.out c.drew hd3).mono ?_);rintro e B ⟨rfl,I⟩;have K:Below c.heap.size c B:=qab hd3 I)
  |(go_at_call 17;(with_reducible refine(H.out (c.alloc (.cells #[int i64 ((W.S k).waits.length:Int),int i64 ((W.S k).l.length:Int)] 3)).drew aa).mono ?_);rintro e B ⟨rfl,I⟩;have K:Below c.heap.size c B:=qab aa I)
  |(go_at_call 17;(with_reducible refine(Z.out B K).mono ?_);rintro e L ⟨rfl,hb5⟩;have hb53:Below c.heap.size c L:=qab (boxed K _) hb5)
  |(go_at_call 17;(with_reducible refine(ab.out B I).mono ?_);rintro e L ⟨rfl,hb5⟩;have hb53:Below c.heap.size c L:=qab K hb5)
  |(go_at_call 43;(with_reducible refine(TD.out L hb53).mono ?_);rintro e w6 ⟨p,r,rfl,hJ,hb6⟩;have hb63:Below c.heap.size c w6:=qab hb53 hb6)
  |(go_at_call 42;(with_reducible refine hJ.out.mono ?_);rintro e w7 ⟨rfl,hb7⟩;have hb73:Below c.heap.size c w7:=qab hb63 hb7;have HF2:=z.out w7 (qab HX.out hb73)))
 all_goals
  clear H Z ab TD z A1 A2 A3 A4 X1 X2 X3 X4 X8 X9
  go_wp2
  go_ret2;exact HF2
end
section
open Go.Value Go.IntKind Go.RowKit
theorem qfb.gl3 {w w2 c:World} {i hb b j cap:Nat} {Gw G:Nat->Prop} {W W':WoS} {a:Option Addr} {l:List ByteArray} (h:qfb w i hb b Gw G W j a cap l) (m:Below w.heap.size w w2) (n:qfc w2 b Gw W' c):Gl c:=by
 obtain⟨o,_,_,d⟩:=n;have g:=h.gl.later m;exact g.kept (λk f=>d.block k (Nat.lt_of_lt_of_le f g.sz) (λe=>h.gn k (Nat.lt_of_lt_of_le f h.nn.1) ((h.g k).2 (.inr e)))) d.size
theorem qzp:qbr 5:=λ{w w2 n0 hb b j cap nc Gw G W a na l ns} u h hn hlen I _ hN hb2=>by
 have R:=(h.hs.later hb2).rw;obtain⟨x,rfl⟩:=qlx hlen;simp[qaw,qfy,thB,thC]at I;obtain⟨k,rfl,L,hth,_⟩:=qcq I;obtain⟨g,rfl,hgB,hgl,q0⟩:=hN.cell 0 _ rfl;have hcap:=hN.cap;have CM:=q26 w2 R h.wi.wf L (h.wi.ps k L) (λe=>(h.wi.told L e).2);have wf:=q9p h.di L;have M:Hid (qji W k=if (wcT W k).seq=0 then [110,111,116,104,105,110,103]else qbc [(wcT W k).site,(wcT W k).seq,(wcT W k).wall,(wcT W k).count]++[58,32]++qbc [(wcT W k).d0,(wcT W k).d1,(wcT W k).d2,(wcT W k).d3]):=rfl
 have J:Hid (∀i d told,qfc w2 b Gw (wcW W k) i->Below i.heap.size i d->(wcE W k=0->told=qji W k)->qcw 5 W l w hb G (.returned (.tuple #[.string (bya told),int i64 (wcE W k)])) d):=λi d told U hb4 I=>h.fin hn hb2 (by
  show (if qbt (k:Int) W.c then qji W k=qji W k/\wcW W k=wcW W k/\wcE W k=wcE W k else qji W k=[]/\wcW W k=W/\wcE W k=2);rw[if_pos hth]
  exact⟨rfl,rfl,rfl⟩) I U hb4
 have HG:Hid (∀i,qfc w2 b Gw (wcW W k) i->Gl i):=λi U=>h.gl3 hb2 U;obtain⟨⟨n,m,p,r,s,v,y,z,E⟩,V⟩:∃t,wcT W k=t:=⟨_,rfl⟩;obtain⟨C,X⟩:∃C,wcE W k=C:=⟨_,rfl⟩;rw[V]at wf M
 dsimp only at wf M
 rw[X]at J;have w1:∀x∈[n,m,p,r],wfI x:=λx B=>wf x (by simp at B ⊢;rcases B with e|e|e|e<;>simp[e]);have w2':∀x∈[s,v,y,z],wfI x:=λx B=>wf x (by simp at B ⊢;rcases B with e|e|e|e<;>simp[e]);have N:Hid ((∀x∈[n,m,p,r],wfI x)/\(∀x∈[s,v,y,z],wfI x)):=⟨w1,w2'⟩;clear h hn hb2 hlen I hN R hth wf w1 w2'
 conv=>arg 2;whnf
 unfold qd1
 go_wp2_with fail
 refine CM.mono ?_;rintro e i ⟨⟨mt,F,H⟩,rfl,Y,hh⟩;rw[V]at Y;simp only at Y;subst Y;rw[X,show txV ⟨⟨n,m,p,r,s,v,y,z,E⟩,F,H⟩=.agg #[int i64 n,int i64 m,int i64 p,int i64 r,int i64 s,int i64 v,int i64 y,int i64 z,.slice F E.length H]from rfl]
 have O:Hid (qfc w2 b Gw (wcW W k) i):=by
  obtain⟨_,G',R',p2,tt,_⟩:=hh.out;exact⟨G',R',p2,tt⟩
 clear hh CM V X;obtain⟨d,Z⟩:∃d,i.alloc (.cells #[int i64 n,int i64 m,int i64 p,int i64 r,int i64 s,int i64 v,int i64 y,int i64 z,.slice F E.length H] 102)=d:=⟨_,rfl⟩
 have Q:qag d i.heap.size [int i64 n,int i64 m,int i64 p,int i64 r,int i64 s,int i64 v,int i64 y,int i64 z,.slice F E.length H]:=by rw[<-Z];exact qag.new (w:=i) (T:=102) [int i64 n,int i64 m,int i64 p,int i64 r,int i64 s,int i64 v,int i64 y,int i64 z,.slice F E.length H] rfl
 have aa:Below i.heap.size i d:=by rw[<-Z];exact boxed (Below.refl _ i) _
 have K:Hid (qag d i.heap.size [int i64 n,int i64 m,int i64 p,int i64 r,int i64 s,int i64 v,int i64 y,int i64 z,.slice F E.length H]/\Below i.heap.size i d/\Gl d):=⟨Q,aa,(HG.out i O.out).later aa⟩;obtain⟨t0,t1,t2,t3⟩:=Q.c4;have tl:=Q.lt;clear Q aa HG q0;by_cases S:C=0/\m=0
 ·obtain⟨h0,D⟩:=S
  have FIN:Hid (qcw 5 W l w hb G (.returned (.tuple #[.string (bya [110,111,116,104,105,110,103]),int i64 0])) d):=by
   have:=J.out i d [110,111,116,104,105,110,103] O.out K.out.2.1 (λ_=>by rw[M.out,if_pos D])
   rwa [h0]at this
  subst h0 D;clear J
  go_wp2
  go_ret2;exact FIN.out
 ·have H01:Hid _:=S;have hbx:Below d.heap.size d (d.alloc (.cells #[int i64 n,int i64 m,int i64 p,int i64 r] 3)).drew:=(boxed (Below.refl _ d) _).drew;have ab:=qd6 (b:=d.heap.size) (o:=0) (cap:=4) (l:=[n,m,p,r]) (by simp) (by simp) N.out.1 ((d.alloc (.cells #[int i64 n,int i64 m,int i64 p,int i64 r] 3)).drew) (K.out.2.2.later hbx) (by simp) (qf2 (w:=d) (T:=3) [n,m,p,r])
  dsimp only[List.length_cons,List.length_nil,Nat.reduceAdd]at ab
  have BLP:Hid (∀w',Below d.heap.size d w'->Calls Tryz.prog 17 #[.slice (some ⟨i.heap.size,4,none⟩) 4 4] w' λe w2=>e=.returned (.string (bya (qbc [s,v,y,z])))/\Below w'.heap.size w' w2):=λw' D=>q2x (o:=4) K.out.1 (λq x B=>by match q,B with|0,B=>exact(by simpa using B)|1,B=>exact(by simpa using B)|2,B=>exact(by simpa using B)|3,B=>exact(by simpa using B)) N.out.2 w' (K.out.2.2.later D) D
  have l1:(qbc [n,m,p,r]).length<=88:=by have:=qb7 N.out.1;simpa using this
  have l2:(qbc [s,v,y,z]).length<=88:=by have:=qb7 N.out.2;simpa using this
  have A1:=λw=>qnh (P:=Tryz.prog) (bya (qbc [n,m,p,r])) ⟨#[58,32]⟩ (by simp[qcc];omega) w;have A2:=λw=>qnh (P:=Tryz.prog) (bya (qbc [n,m,p,r])++⟨#[58,32]⟩) (bya (qbc [s,v,y,z])) (by simp[qcc];omega) w
  have HF1:Hid (∀w',Below d.heap.size d w'->qcw 5 W l w hb G (.returned (.tuple #[.string (bya (qbc [n,m,p,r])++⟨#[58,32]⟩++bya (qbc [s,v,y,z])),int i64 C])) w'):=λw' D=>by
   have:=J.out i w' (qbc [n,m,p,r]++[58,32]++qbc [s,v,y,z]) O.out (qab K.out.2.1 D) (λe=>by rw[M.out,if_neg (λq=>H01.out ⟨e,q⟩)])
   rwa [show bya (qbc [n,m,p,r]++[58,32]++qbc [s,v,y,z])=bya (qbc [n,m,p,r])++⟨#[58,32]⟩++bya (qbc [s,v,y,z]) by
        rw[show (⟨#[58,32]⟩:ByteArray)=bya [58,32]from rfl,qbo,qbo]]at this
  have hq:(C==0)=false\/((C==0)=true/\(m==0)=false):=by
   by_cases e:C=0
   ·exact .inr ⟨by simp[e],by simp;exact λq=>S ⟨e,q⟩⟩
   ·exact .inl (by simp[e])
  clear J O l1 l2 S;rcases hq with hq|⟨hq,hq1⟩
  all_goals
   go_upto_region 36 with fail
   have X0:=λ(w':World) (h:Below d.heap.size d w')=>cell_later h t0;have X1:=λ(w':World) (h:Below d.heap.size d w')=>cell_later h t1;have X2:=λ(w':World) (h:Below d.heap.size d w')=>cell_later h t2;have X3:=λ(w':World) (h:Below d.heap.size d w')=>cell_later h t3;clear t0 t1 t2 t3 Z
   go_region_held3 (λw'=>Below d.heap.size d w') ((repeat (first|(with_reducible assumption)|(with_reducible refine boxed ?_ _)|(with_reducible refine Below.drew ?_)|(with_reducible exact Below.refl _ _)))) (first|(go_at_call 17;(with_reducible refine ab.mono ?_);rintro e w5 ⟨rfl,hb5⟩;have hb54:Below d.heap.size d w5:=qab hbx hb5;have BL2:=BLP.out w5 hb54)|(go_at_call 17;(with_reducible refine BL2.mono ?_);rintro e w6 ⟨rfl,hb6⟩;have hb64:Below d.heap.size d w6:=qab hb54 hb6;have HF2:=HF1.out w6 hb64))
   all_goals
        clear ab BL2 BLP HF1 A1 A2 X0 X1 X2 X3
        go_wp2
        go_ret2;exact HF2
end
theorem q8e (a:qbr 9):∀i,i<19->qbr i:=
 jap (p:=qbr) @arm_abort @arm_ask @arm_begin @arm_calm @arm_client @arm_commit @arm_deliver @arm_drop @arm_goes @hh @arm_lose @arm_many @arm_move @arm_read @arm_site @arm_sweep @arm_twice @arm_world @arm_write
section
open Go.Shelf
def Tryz.lays192_ren:Go.Shelf.Ren:=⟨λ|192=>44|190=>92|125=>133|258=>132|128=>194|129=>195|302=>185|303=>186|304=>187|305=>188|306=>189|307=>190|308=>191|309=>192|310=>193|333=>232|329=>233|330=>234|334=>235|335=>236|336=>237|344=>267|n=>n,λ|31=>42|0=>0|9=>9|3=>3|46=>190|51=>250|53=>192|4=>4|183=>244|182=>243|131=>93|5=>5|218=>289|222=>293|228=>327|229=>144|n=>n,λ|n=>n⟩
theorem Tryz.lays192:Go.Proofs.Lays.n192 Tryz.prog Tryz.lays192_ren:={
 mixed:=by kernel_rfl
 f125:=Tryz.func133.trans (congrArg some (by kernel_rfl))
 f128:=Tryz.func194.trans (congrArg some (by kernel_rfl))
 f129:=Tryz.func195.trans (congrArg some (by kernel_rfl))
 f190:=Tryz.func92.trans (congrArg some (by kernel_rfl))
 f192:=Tryz.func44.trans (congrArg some (by kernel_rfl))
 f258:=Tryz.func132.trans (congrArg some (by kernel_rfl))
 f302:=Tryz.func185.trans (congrArg some (by kernel_rfl))
 f303:=Tryz.func186.trans (congrArg some (by kernel_rfl))
 f304:=Tryz.func187.trans (congrArg some (by kernel_rfl))
 f305:=Tryz.func188.trans (congrArg some (by kernel_rfl))
 f306:=Tryz.func189.trans (congrArg some (by kernel_rfl))
 f307:=Tryz.func190.trans (congrArg some (by kernel_rfl))
 f308:=Tryz.func191.trans (congrArg some (by kernel_rfl))
 f309:=Tryz.func192.trans (congrArg some (by kernel_rfl))
 f310:=Tryz.func193.trans (congrArg some (by kernel_rfl))
 f329:=Tryz.func233.trans (congrArg some (by kernel_rfl))
 f330:=Tryz.func234.trans (congrArg some (by kernel_rfl))
 f333:=Tryz.func232.trans (congrArg some (by kernel_rfl))
 f334:=Tryz.func235.trans (congrArg some (by kernel_rfl))
 f335:=Tryz.func236.trans (congrArg some (by kernel_rfl))
 f336:=Tryz.func237.trans (congrArg some (by kernel_rfl))
 f344:=Tryz.func267.trans (congrArg some (by kernel_rfl))
 t0:=Tryz.underlying0
 a0:=Tryz.isAgg0
 z0:=Tryz.sizeOf0
 v0:=Tryz.zeroValue0
 t3:=Tryz.underlying3
 a3:=Tryz.isAgg3
 z3:=Tryz.sizeOf3
 v3:=Tryz.zeroValue3
 t4:=Tryz.underlying4
 a4:=Tryz.isAgg4
 z4:=Tryz.sizeOf4
 v4:=Tryz.zeroValue4
 t5:=Tryz.underlying5
 a5:=Tryz.isAgg5
 z5:=Tryz.sizeOf5
 v5:=Tryz.zeroValue5
 t9:=Tryz.underlying9
 a9:=Tryz.isAgg9
 z9:=Tryz.sizeOf9
 v9:=Tryz.zeroValue9
 t31:=Tryz.underlying42
 a31:=Tryz.isAgg42
 z31:=Tryz.sizeOf42
 v31:=Tryz.zeroValue42
 t46:=Tryz.underlying190
 a46:=Tryz.isAgg190
 z46:=Tryz.sizeOf190
 v46:=Tryz.zeroValue190
 t51:=Tryz.underlying250
 a51:=Tryz.isAgg250
 z51:=Tryz.sizeOf250
 v51:=Tryz.zeroValue250
 t53:=Tryz.underlying192
 a53:=Tryz.isAgg192
 z53:=Tryz.sizeOf192
 v53:=Tryz.zeroValue192
 t131:=Tryz.underlying93
 a131:=Tryz.isAgg93
 z131:=Tryz.sizeOf93
 v131:=Tryz.zeroValue93
 t182:=Tryz.underlying243
 a182:=Tryz.isAgg243
 z182:=Tryz.sizeOf243
 v182:=Tryz.zeroValue243
 t183:=Tryz.underlying244
 a183:=Tryz.isAgg244
 z183:=Tryz.sizeOf244
 v183:=Tryz.zeroValue244
 t218:=Tryz.underlying289
 a218:=Tryz.isAgg289
 z218:=Tryz.sizeOf289
 v218:=Tryz.zeroValue289
 t222:=Tryz.underlying293
 a222:=Tryz.isAgg293
 z222:=Tryz.sizeOf293
 v222:=Tryz.zeroValue293
 t228:=Tryz.underlying327
 a228:=Tryz.isAgg327
 z228:=Tryz.sizeOf327
 v228:=Tryz.zeroValue327
 t229:=Tryz.underlying144
 a229:=Tryz.isAgg144
 z229:=Tryz.sizeOf144
 v229:=Tryz.zeroValue144}
open Go.Sort Go.RowKit in
theorem Tryz.sort_Strings (blk b cap:Nat) (a:List (List UInt8)) (w:World) (c:Holds encStr w blk b a.toArray) (d:blk<w.heap.size) (f:a.length<4611686018427387904):
 Calls Tryz.prog 44 #[.slice (some ⟨blk,b,none⟩) a.length cap] w λe w'=>
  e=.returned (.tuple #[])/\∃n os,w'=grow (putRow encStr (Sort.ahead w n) blk b (a.mergeSort λx y=>decide (x<=y)).toArray) os:=Any.sort_Strings Tryz.lays192 blk b cap a w c d f
end
section
open Tryz Go.RowKit Go.Maps Go.Sort
theorem q1j:Go.strKeys qhc=qi0:=by decide
theorem q1c:Maps.size qhc=19:=by decide
theorem q7d:qbr 9:=λ{w w2 n0 hb b j cap nc Gw G W a na l ns} u h hn hlen ht _ hN hb2=>by
 obtain rfl:=qwa hlen;obtain⟨bm,S,fm,hbm⟩:=h.fm;obtain⟨i0,hi,hz0,hz1,hz2⟩:=info_parts qmq
 have hbl:bm<w2.heap.size:=by have:=h.nn.2;have:=hb2.size;omega
 have M:w2.ownsMap prog 9 (plainElem prog 9) bm 19 qhc:=fm.kept (hb2.block bm (by have:=h.nn.2;omega));have c0:w2.cell? ⟨0,0,none⟩=some (.map (some bm)):=(hb2.cell (p:=⟨0,0,none⟩) (Nat.lt_of_lt_of_le (by decide) h.gl.sz)).trans S;have N:Hid (qfb w n0 hb b Gw G W j a cap l/\qc4 9 l=some []/\Below w.heap.size w w2):=⟨h,hn,hb2⟩;have HO:Hid _:=M;clear h hn hb2 hlen ht hN fm S hbm
 conv=>arg 2;whnf
 unfold qd1
 go_wp2_with (at_range;refine wpList_range_own _ rfl _ 92 rfl 9 9 qku underlying92 _ bm 19 _ rfl M ?_;intro w0 T hg0 hs0)
 go_frame
 rw[q1c]at T;clear M c0 hs0
 go_loopw [25] (λv wr=>∃(left:Lit->Bool) (cnt:Nat) (d:List (List UInt8)),d.length+cnt<=19/\wr.ranges prog 9 (plainElem prog 9) bm w2.heap.size 19 qhc left cnt/\wr.ownsRow w2.heap.size 9 1 v d.length (d.map encStr)/\Hid (Collected qhc left d/\Below w2.heap.size w2 wr)) (λ_ wr=>wr.rangeLeft bm w2.heap.size)
 case atStart=>exact⟨_,19,[],by simp,T,World.ownsRow_nil _ _ _ _,Collected.start qhc,(Below.refl _ _).grown hg0 (Nat.le_refl _) (λj k=>by cases k)⟩
 case round=>
  obtain⟨left,cnt,d,hcs,F,H,m⟩:=hrel
  go_wp2_with (at_next;refine wpList_next_ranges _ rfl _ rfl 9 qku (plainElem prog 9) encStr Value.string (λkey kl hk=>by obtain⟨x,I,_⟩:=Maps.keyOf_str underlying9 hk;exact⟨x,I⟩) (λv y o=>by obtain⟨c,rfl,_⟩:=qsc o;exact⟨c,rfl⟩) bm w2.heap.size 19 _ _ _ rfl F ?_ ?_)
  ·intro hc0 hl0
   have O:d.Perm qi0:=by rw[<-q1j];exact m.out.1.perm HO.out qku underlying9 hl0
   have E:=qxm O;have r:d.length=19:=O.length_eq;rcases H.2 with ⟨hnil,h0⟩|⟨g,s,cur,rfl,U,hb,V,X,Y,Z⟩
   ·omega
   have hH:Holds encStr wr g 0 d.toArray:=holds_of_block hb (by simpa using Z);have hgl:g<wr.heap.size:=(Array.getElem?_eq_some_iff.1 hb).1;have P:=Tryz.sort_Strings g 0 s d wr hH hgl (by omega)
   have hlc:qi0.length=d.length:=by rw[r];rfl
   have HB:Hid (∀i,(∃n os,i=grow (putRow encStr (Sort.ahead wr n) g 0 qi0.toArray) os)->i.ownsRow w2.heap.size 9 1 (.slice (some ⟨g,0,none⟩) 19 s) 19 (qi0.map encStr)/\Below w2.heap.size w2 i):=λi ⟨n,os,e⟩=>by
        subst e;have q:=ownsRow_sorted (n:=n) (os:=os) hlc U hb V X Y;rw[r]at q;exact⟨q,m.out.2.grown (grownBy_sorted _) m.out.2.size (λj k=>by cases k;exact U)⟩
   rw[E,r]at P
   have hc19:19<=s:=by omega
   have HL:Hid _:=r;clear H hb V X Y Z hH O E hlc F r hcs;rw[HL.out]
   go_wp2_with fail
   refine P.mono ?_;rintro e i ⟨rfl,hw4⟩;obtain⟨Q,b4⟩:=HB.out i hw4;clear hw4 P HB
   have J:=Tryz.strings_Join g 0 s (qi0.map bya) ⟨#[32]⟩ i (λq y hy=>by
        rw[Nat.zero_add];rw[List.getElem?_map]at hy;obtain⟨x,I,rfl⟩:=Option.map_eq_some_iff.1 hy;have k:q<19:=(List.getElem?_eq_some_iff.1 I).1;rw[Q.cellAt q (by rw[Nat.mul_one];exact k),List.getElem?_map,I]
        rfl) (Q.lt g rfl).2 (by decide) hc19 (by decide)
   replace J:Calls prog 42 #[.slice (some ⟨g,0,none⟩) 19 s,.string ⟨#[32]⟩] i λe w'=>e=.returned (.string (bya (Lib.join qi0 [32])))/\Below i.heap.size i w':=J;have HF:Hid (∀B,Below i.heap.size i B->qcw 9 W l w hb G (.returned (.tuple #[.string (bya (Lib.join qi0 [32])),.int .i64 0])) B):=λB K=>N.out.1.tell (told:=Lib.join qi0 [32]) (t:=Lib.join qi0 [32]) N.out.2.1 (qab (qab N.out.2.2 b4) K) ⟨rfl,rfl,rfl⟩ (λ_=>rfl);clear Q b4
   go_wp2_with fail
   refine J.mono ?_;rintro e B ⟨rfl,K⟩;have HF0:=HF.out B K;clear HF J K
   go_wp2
   go_ret2;exact HF0
  ·intro x c kl yd yp L cnt2 hkey hlk o hat hrg2 hlt hg2 hs2 hen;obtain⟨x',ex,rfl,_⟩:=Maps.keyOf_str underlying9 hkey;obtain rfl:x=x':=encStr_inj ex;have hrow2:=H.kept hg2 (Or.inr (row_ne_iter H F).symm);have C:=qjp hrow2 (boxed (Below.refl _ L) (.cells #[encStr x] 9));have D:Hid (Below w2.heap.size w2 L/\Collected qhc (λz=>left z&&!z.sameKey (.string x)) (d++[x])):=⟨m.out.2.grown hg2 m.out.2.size (λj k=>by cases k;exact Nat.le_refl _),m.out.1.step hlk hat⟩;clear hs2 o hat hlk hkey ex
   go_wp2_with (at_builtin;refine wpList_append_lies _ rfl _ _ 42 rfl w2.heap.size 9 i0 (.string ⟨#[]⟩) 1 16 underlying42 hi hz0 hz1 hz2 rfl (by decide) _ _ _ rfl C ⟨L.heap.size,0,none⟩ 1 1 [encStr x] rfl rfl (World.news_of_block (heap_alloc_new L (.cells #[encStr x] 9)))?c2 (by decide)?c3 ?c4 ?c5 _ rfl ?_)
   case c2=>intro v o;simp at o;subst o;rfl
   case c3=>unfold maxLen;omega
   case c4=>omega
   case c5=>have:=D.out.1.size;simp;omega
   intro gb gc i own4 R at4 lt4;have hrg4:=(hrg2.alloc (.cells #[encStr x] 9)).kept R (row_ne_low C hbl) (row_ne_iter C (hrg2.alloc _))
   have FIN:Hid (i.ownsRow w2.heap.size 9 1 (.slice (some ⟨gb,0,none⟩) (d.length+1) gc) (d++[x]).length ((d++[x]).map encStr)/\Below w2.heap.size w2 i):=by
        refine⟨by simpa using own4,?_⟩;exact(D.out.1.alloc D.out.1.size _).grown R (by have:=D.out.1.size;simp;omega) (λq e=>(C.lt q e).1)
   clear own4 R at4 lt4 C hrow2 hen
   go_wp2
   go_roundw
   case rel=>exact⟨_,_,_,_,_,_,_,_,_,_,⟨_,cnt2,d++[x],by simp;omega,hrg4,FIN.out.1,D.out.2,FIN.out.2⟩,rfl⟩
   case measure=>rw[hrg4.left_eq,F.left_eq];exact hlt
end
section
open Tryz Go.RowKit
theorem q38 (s:ByteArray) (hs:20000<s.size) (w:World):
 Calls prog 6 #[.string s] w λe w'=>e=.returned (.string (bya [101,114,114,111,114,32,52,10]))/\Below w.heap.size w w':=by
 have a:20000<(s.size:Int):=by omega
 clear hs;go_enter func6,ntmps6
 go_wp2
 go_ret;exact⟨rfl,Below.refl _ _⟩
theorem q44.later {w w':World} (h:q44 w) (a:10<=w.heap.size) (hb:Below w.heap.size w w'):q44 w':=by
 obtain⟨bm,f1,f2,f3⟩:=h;exact⟨bm,(hb.cell (p:=⟨0,0,none⟩) (Nat.lt_of_lt_of_le (by decide) a)).trans f1,f2.kept (hb.block bm f3),Nat.lt_of_lt_of_le f3 hb.size⟩
theorem qu4 (s:ByteArray) (w:World) (g:Gl w) (fm:q44 w):
 Calls prog 4 #[.string s] w λe w'=>e=.returned (.bool true)/\Below w.heap.size w w':=by
 by_cases r:30000<(s.size:Int)
 ·have o:3000<(s.size:Int):=by omega
  have p:¬(s.size:Int)<=20000:=by omega
  go_enter func4,ntmps4
  go_wp2
  go_ret;exact⟨rfl,Below.refl _ _⟩
 ·by_cases o:3000<(s.size:Int)
  ·by_cases p:(s.size:Int)<=20000
   ·go_enter func4,ntmps4
    go_wp2
    go_ret;exact⟨rfl,Below.refl _ _⟩
   ·have c:=quu s (by omega) (by omega) w g;have d:=λw'=>q38 s (by omega) w';have q:=jdv (bya [101,114,114,111,114,32,52,10]) (bya [101,114,114,111,114,32,52,10]);go_enter func4,ntmps4
    go_wp2_with fail
    refine c.mono ?_;rintro e a ⟨rfl,b⟩;have h:=d a;clear d c
    go_wp2_with fail
    refine h.mono ?_;rintro e w2 ⟨rfl,i⟩;have j:=qab b i;clear h b i g fm
    go_wp2
    go_ret;exact⟨rfl,j⟩
  ·have c:=qw8 s (by omega) w g;have d:=λ(a:World) (hb:Below w.heap.size w a)=>q6k (q8e @arm_help) s (by omega) a (g.later hb) (fm.later g.sz hb);go_enter func4,ntmps4
   go_wp2_with fail
   refine c.mono ?_;rintro e a ⟨k,rfl,⟨A,m⟩,b⟩;have h:=d a b;have l:Hid (qfm (qhk 2 2) ((qgn s.data.toList).map bya) k A/\Below w.heap.size w a):=⟨m,b⟩;clear d c m b g fm
   go_wp2_with fail
   refine h.mono ?_;rintro e w2 ⟨t,rfl,⟨u,n⟩,i⟩;obtain⟨_,rfl⟩:=qfm.det l.out.1 n;have j:=qab l.out.2 i
   have q:((bya k).toList==(bya k).toList)=true:=by rw[jdv];simp
   clear h i n l
   go_wp2
   go_ret;exact⟨rfl,j⟩
end
section
open Tryz Go.ChangeShapes Go.WideShapes Go.ChangeAt Go.ChangeMaps Go.RowKit
theorem q1g:(Rows.laid_copse_copseref_forms:DataW Unit)=qhc:=rfl
variable {W:World}
theorem jd2 (h:∃r,laidMet prog (("copse/copseref.forms",Rows.laid_copse_copseref_forms)::r) W):q44 W:=by
 obtain⟨r,ps,⟨l,t0,n,f0,p0,o,c,e,f,d,_,p⟩,_⟩:=h;obtain rfl:=Option.some.inj ((show prog.globalNamed "copse/copseref.forms"=some 0 by kernel_rfl).symm.trans c);obtain rfl:=Option.some.inj ((show (prog.globals[0]?).map (·.type)=some 92 by kernel_rfl).symm.trans e);rw[q1g]at d;rcases WideElems.open_map underlying92 d with ⟨_,a⟩|⟨bm,es,s,m,rfl,i,hb,_,F,a⟩
 ·unfold qhc at a;cases a
 simp only[Prod.mk.injEq]at a
 have j:W.cell? ⟨0,0,none⟩=some (.map (some bm)):=by
  have:=World.var?_cell c f 0;rw[Array.eq_one_of_toList i]at this;simpa using this
 have b:=World.ownsMap_of_fit (R:=plainElem prog 9) hb F (λx _ z k=>elemAt_plainElem_string underlying9 k);rw[<-a.1]at b
 have hs:es.size=19:=by
  have q:=a.1;unfold qhc at q;injection q with q;have:=congrArg List.length q;rw[length_sorted,List.length_map,List.length_map,Array.length_toList]at this;exact this.symm
 rw[hs]at b;exact⟨bm,j,b,(Array.getElem?_eq_some_iff.1 hb).1⟩
noncomputable def q2o (os:Os):World:=(World.doorLaid prog 179 os).layVars prog [("unicode/utf8.first",Rows.laid_unicode_utf8_first)]
theorem q73 (os:Os) (args:Array Value):laidMetH prog Rows.deskAnswersRow.laid ((q2o os).forCall (λ_ _=>0) ⟨#[],args,[]⟩).memory:=
 laidMetH_of_parts3 (fuel:=8) (laidMet_layVars (w0:=World.doorLaid prog 179 os) ["unicode/utf8.first"] ((List.range (World.doorLaid prog 179 os).heap.size).filter (λx=>Nat.beq x 4==false)) (by rfl) (by kernel_rfl) (by kernel_rfl)
  (LaidIn.of_run _ 8 (by kernel_rfl) (by kernel_rfl) (by kernel_rfl) (by kernel_rfl))) (by kernel_rfl) (by kernel_rfl)
theorem q0c (h:laidMetH prog Rows.deskAnswersRow.laid W) (hs:W.ShapedOpen prog):Gl W/\q44 W:=by
 have a:laidMet prog [("math/bits.deBruijn32tab",Rows.laid_math_bits_deBruijn32tab),("math/bits.deBruijn64tab",Rows.laid_math_bits_deBruijn64tab),("internal/strconv.uint64pow10",Rows.laid_internal_strconv_uint64pow10),("unicode/utf8.acceptRanges",Rows.laid_unicode_utf8_acceptRanges),("strconv.ErrRange",Rows.laid_strconv_ErrRange),("strconv.ErrSyntax",Rows.laid_strconv_ErrSyntax),("copse/copseref.forms",Rows.laid_copse_copseref_forms),("unicode/utf8.first",Rows.laid_unicode_utf8_first)] W/\handlesMet prog [("errors.errorType",Rows.laid_errors_errorType)] W:=h;exact⟨jeg ⟨_,a.1.tail.tail⟩ ⟨_,a.1.tail.tail.tail.tail⟩ a.2 hs,jd2 ⟨_,a.1.tail.tail.tail.tail.tail.tail⟩⟩
theorem qns {H:Type} {enc:TypeId×Value->H} (W:World) (base:Nat) (args:Array Value) (a gs:List (DataW H)) (m:List MemPlace)
 (b:∀(j:Nat) t v,f4.params[j]?=some t->args[j]?=some v->Value.okWide prog W .any base t v) (c:DataW.Whole enc prog f4.params.toList Rows.deskAnswersSpec.vars false W args.toList a gs m) (g:Gl W/\q44 W):
 Calls prog 4 args W λe W'=>∃v,e=.returned v/\Rows.deskAnswersSpec.post enc prog f4 false true false false W args v W':=by
 have d:∀(j:Nat) t v,f4.params[j]?=some t->args[j]?=some v->Value.okWide prog W .any base t v:=b;have n:=c;obtain⟨p,q,i,o,rfl,z,B⟩:=c;have k:DataW.TrodAll enc prog W 0 (λ_=>true) true f4.params.toList args.toList a p:=i;have l:DataW.TrodVars enc prog W (λ_=>true) [] gs q:=o;rw[Tryz.params4]at k d;obtain⟨v0,C,d0,D,p0,E,F,rfl,rfl,s,u⟩:=trodAll_cons k;obtain⟨rfl,rfl,rfl⟩:=trodAll_nil u
 obtain rfl:args=#[v0]:=by cases args;simp_all
 obtain⟨rfl,rfl⟩:gs=[]/\q=[]:=by
  cases gs with
  |nil=>exact⟨rfl,l⟩
  |cons g r=>exact absurd l (by intro h;cases h)
 obtain⟨s0,rfl,rfl,rfl,w⟩:=open_string underlying9 (d 0 9 v0 rfl rfl) s;clear i b;refine(qu4 s0 W g.1 g.2).mono λe W' ⟨x,y⟩=>?_;subst x;exact⟨_,rfl,_,_,_,[],_,[],n,trodAll_mk1 (shut_bool underlying4 _),trodAll_cons_mk (shut_string underlying9 w) trodAll_mk0,rfl,y.frame _,λh=>by cases h⟩
theorem qmi (os:Os) (a:os.Started) (H:Type) (enc:TypeId×Value->H):
 ReturnsInHanded {} Tryz.checked os 4 .any (λw args=>(Rows.deskAnswersSpec.pre enc prog f4 [] false w args/\laidMetH prog Rows.deskAnswersRow.laid w)/\sizedMet enc prog f4 (OpenSpec.ofChange Rows.deskAnswersSpec) false w args)
  (Rows.deskAnswersSpec.post enc prog f4 false true false false):=by
 refine returnsInHanded_of_calls own a (by kernel_rfl)
  (ChangeSpec.witness_shaped (enc:=enc) (C:=Tryz.checked) (os:=os) (fn:=f4) (s:=Rows.deskAnswersSpec) (conds:=[]) (apart:=false) (X:=λw _=>laidMetH prog Rows.deskAnswersRow.laid w) false (q2o os) #[.string ⟨#[]⟩] 8 (World.layVars_os _ _ _) (World.shaped_of_RefB (by kernel_rfl) (by kernel_rfl)) (by kernel_rfl) (by kernel_rfl) (by kernel_rfl) (q73 os _)) ?_
 intro w tape i _ b _ c d _;obtain⟨_,_,_,fn,g,_,_,_,_,h⟩:=c;obtain rfl:fn=f4:=Option.some.inj (g.symm.trans func4);obtain⟨⟨⟨j,gs,k,l,_⟩,m⟩,_⟩:=d;refine(qns (w.forCall tape i) w.heap.size i.args j gs k h (DataW.Whole.of_heap (w':=w.forCall tape i) (by rfl) l) (q0c (m.of_heap (by rfl)) b)).mono λe W' ⟨v,n,o⟩=>?_;subst n;exact ChangeSpec.post_blind o
end
open Go.ChangeShapes Go.WideShapes Go.ChangeAt Go.ChangeMaps Go.RowKit
theorem qpx:joinedFacts Tryz.pinned.checked.prog 4 Tryz.f4 Rows.deskAnswersSpec Rows.deskAnswersRow=true:=by
 unfold joinedFacts;simp only[Bool.and_eq_true]
 repeat' apply And.intro
 all_goals (as_aux_lemma=>kernel_rfl)
theorem qnr:Rows.DeskAnswersSaid:=
 OpenClaim.holds_of_wide 4 Tryz.f4 rfl rfl rfl rfl rfl rfl rfl ⟨rfl,rfl,rfl,rfl,rfl⟩ rfl rfl rfl rfl rfl (by kernel_rfl) Tryz.func4 qpx
  (of_decide_eq_true (by kernel_rfl)) (by unfold Func.isWrapper;rw[if_neg (of_decide_eq_false (by kernel_rfl))];exact⟨rfl,rfl⟩)
  (λos a H enc _=>qmi os a H enc)
theorem deskAnswers_card:Rows.DeskAnswersCardSaid:=
 Claim7.holds_tied_plain_at .later [] [.data,.data,.data,.data,.handle,.sentinel,.sentinel,.mapped,.pinned] true _ true
  qnr (λ_ h=>by cases h) (by kernel_rfl) (λ_ h=>by cases h) deskAnswers_row_tie rfl ⟨rfl,rfl⟩ (by kernel_rfl) rfl
  (λf fn b c=>by
    obtain rfl:f=4:=Option.some.inj ((show Tryz.prog.funcNamed Rows.deskAnswersRow.func=some 4 by kernel_rfl).symm.trans b)|>.symm;obtain rfl:fn=Tryz.f4:=(Option.some.inj (Tryz.func4.symm.trans c)).symm
    exact⟨by kernel_rfl,λj t a=>by
        rw[Tryz.params4]at a
        have d:t=9:=by
         rcases j with _|j
         ·simpa using a.symm
         ·simp at a
        subst d
        exact(show Tryz.prog.wantsStandIn 9=false by kernel_rfl)⟩)
  (by kernel_rfl)
end Go.Proofs.YtoanjdndmlffdaaGreatDoor
