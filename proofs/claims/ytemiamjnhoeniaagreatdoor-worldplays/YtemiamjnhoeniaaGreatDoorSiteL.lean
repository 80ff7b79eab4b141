import Derived.Test.YtemiamjnhoeniaaGreatDoorSiteK
set_option maxHeartbeats 8000000
set_option maxRecDepth 100000
namespace Go.Proofs.YtemiamjnhoeniaaGreatDoor
open Go.RowKit
section
open Tryz Go.Value Go.IntKind
def qlx (w:World) (bp br j:Nat) (X:Nat->Prop) (e:Ending) (w':World):Prop:=e=.returned (.bool true)/\∃W',Hid (PlI (j+1) W'/\Duo w' bp br W' W' X/\qby X w w')
theorem Pl.acted {a w:World} {bp br b j:Nat} {AC:List Value} {X:Nat->Prop} {W:WoS} (h:Pl a bp br b AC X W W w) (c:PlI (j+1) W):qlx a bp br j X (.returned (.bool true)) w:=⟨rfl,W,c,h.done⟩
def q49 (w:World) (bp br:Nat) (Wp Wr:WoS) (X:Nat->Prop) (m:TxM):Prop:=
 ∃Gp Gr,PW w bp Gp Wp/\RW w br Gr Wr/\(∀k,Gp k->¬Gr k)/\(∀k,X k->k<w.heap.size/\¬Gp k/\¬Gr k)/\qat w m.wa m.wc m.t.ws/\∀k,m.blk k->Gr k
variable {m0 m1 m2 m3 m4 m5 m6 m7:Int}
section
variable {bp br j k:Nat} {W Wp Wq:WoS} {X:Nat->Prop} {w w':World}
theorem q49.kept {m:TxM} (h:q49 w bp br Wp Wq X m) (a:qae (λk=>X k) w w'):q49 w' bp br Wp Wq X m:=by
 obtain⟨i,c,p,r,d,b,l,f⟩:=h;have g:∀k,c k->w'.heap[k]?=w.heap[k]?:=λk e=>a.block k (r.lt k e) (λq=>(b k q).2.2 e);exact⟨i,c,p.kept (λk e=>a.block k (p.lt k e) (λq=>(b k q).2.1 e)) a.size,r.kept g a.size,d,λk e=>⟨Nat.lt_of_lt_of_le (b k e).1 a.size,(b k e).2⟩,l.kept (m:=m) (λk e=>g k (f k e)),f⟩
theorem qu5 {b:List Go.Proofs.YtemiamjnhoeniaaGreatDoor.Wr} (D:Duo w bp br Wp W X) (i:PlI j W) (l:k<W.c) (s:wcT W k=⟨m0,m1,m2,m3,m4,m5,m6,m7,b⟩):Calls prog 37 #[.pointer (some ⟨br,0,none⟩),int i64 k] w λe w'=>∃(g:Option Addr) (h:Nat),e=.returned (.tuple #[.agg #[int i64 m0,int i64 m1,int i64 m2,int i64 m3,int i64 m4,int i64 m5,int i64 m6,int i64 m7,.slice g b.length h],int i64 (wcE W k)])/\Hid (q49 w' bp br Wp (wcW W k) X ⟨⟨m0,m1,m2,m3,m4,m5,m6,m7,b⟩,g,h⟩/\qby X w w'):=by
 obtain⟨t,F,p,r,d,m⟩:=D;refine(qy2 w r i.wf l (i.ps k l) (λe=>(i.told l e).2)).mono λe w' ⟨⟨u,g,h⟩,v,n,x⟩=>?_;have n:u=⟨m0,m1,m2,m3,m4,m5,m6,m7,b⟩:=n.trans s;subst n;obtain⟨y,z,B,s2,a,C⟩:=x.out;refine⟨g,h,v,⟨t,z,p.kept (λk e=>a.block k (p.lt k e) (d k e)) a.size,B,λk o E=>?_,λk e=>?_,y,C⟩,⟨a.os,a.tape,a.output,a.size,λk e=>a.block k (m k e).1 (m k e).2.2⟩⟩
 ·rcases s2 k E with q|q
  ·exact d k o q
  ·have:=p.lt k o;omega
 ·have:=m k e;refine⟨Nat.lt_of_lt_of_le this.1 a.size,this.2.1,λq=>?_⟩;rcases s2 k q with q|q
  ·exact this.2.2 q
  ·omega
theorem qr8 {a:List Go.Proofs.YtemiamjnhoeniaaGreatDoor.Wr} {h:Option Addr} {i:Nat} (D:q49 w bp br W Wq X ⟨⟨m0,m1,m2,m3,m4,m5,m6,m7,a⟩,h,i⟩) (n:PlI j W) (o:k<W.c) (t:wcT W k=⟨m0,m1,m2,m3,m4,m5,m6,m7,a⟩):Calls prog 38 #[.pointer (some ⟨bp,0,none⟩),int i64 k] w λe w'=>∃(b:Option Addr) (g:Nat),e=.returned (.tuple #[.agg #[int i64 m0,int i64 m1,int i64 m2,int i64 m3,int i64 m4,int i64 m5,int i64 m6,int i64 m7,.slice b a.length g],qa9 (wcE W k)])/\Hid (qat w' b g a/\qat w' h i a/\Duo w' bp br (wcW W k) Wq X/\qby X w w'):=by
 obtain⟨H,u,p,r,d,v,x,y⟩:=D;refine(qz6 w p n.wf o (λe=>(n.told o e).1)).mono λe w' ⟨⟨z,b,g⟩,B,l,C⟩=>?_;have l:z=⟨m0,m1,m2,m3,m4,m5,m6,m7,a⟩:=l.trans t;subst l;obtain⟨E,F,p2,s2,s,I⟩:=C.out;have G:∀k,u k->w'.heap[k]?=w.heap[k]?:=λk e=>s.block k (r.lt k e) (λq=>d k q e);exact⟨b,g,B,E,x.kept (m:=⟨⟨m0,m1,m2,m3,m4,m5,m6,m7,a⟩,h,i⟩) (λk e=>G k (y k e)),qcx r d v ⟨F,p2,s2,s⟩⟩
end
section
variable {bp br j k:Nat} {W:WoS} {X:Nat->Prop}
theorem qu2 (T z n xk:Int) (xd:ByteArray) (xg:Bool) (w:World) (D:Duo w bp br W W X) (L:PlI j W) (M:¬(0<=z/\z<(W.c:Int))) (hT:T=0\/T=1\/T=2\/T=3\/T=4\/T=5) (O:X 0) (P:G0 w):
 Calls prog 10 #[.pointer (some ⟨bp,0,none⟩),.pointer (some ⟨br,0,none⟩),.agg #[int i64 T,int i64 z,int i64 n,int i64 xk,.string xd,.bool xg]] w (qlx w bp br j X):=by
 have F:=Pl.first (AC:=[int i64 T,int i64 z,int i64 n,int i64 xk,.string xd,.bool xg]) D O P 36
 have hc:(∃a2 G,(w.alloc (.cells #[int i64 T,int i64 z,int i64 n,int i64 xk,.string xd,.bool xg] 36)).cell? ⟨br,2,none⟩=some (.slice a2 W.c G)):=by
  obtain⟨_,_,_,r,_⟩:=F.d;obtain⟨_,_,a2,G,_,_,_,c2,_⟩:=r.lens;exact⟨a2,G,c2⟩
 obtain⟨a2,G,c2⟩:=hc;have l2:=Later.cell c2;have x0:=Later.cell (F.x.cell 0 _ rfl);have x1:=Later.cell (F.x.cell 1 _ rfl);have hne:=Later.one;have i:Hid (PlI (j+1) W/\¬(0<=z/\z<(W.c:Int))):=⟨L.mono (Nat.le_succ j),M⟩;have Q:Hid _:=F
 have q:decide (z<0)=true\/(decide (z<0)=false/\decide ((W.c:Int)<=z)=true):=by
  by_cases q:z<0
  ·exact .inl (decide_eq_true q)
  ·exact .inr ⟨decide_eq_false q,decide_eq_true (by omega)⟩
 clear D L M F O P c2;rcases q with q5|⟨q5,q6⟩
 all_goals
  go_enter func10,ntmps10
  go_wp2_with fail
  refine qaa (by kernel_rfl) (by kernel_rfl) ?_
  repeat (go_big_quiet_step (first|rfl|fail))
  refine wpQuiet_nil ?_;rintro w2 ⟨⟨_,hb2⟩,rfl⟩;have b:Hid _:=Q.out.later hb2;obtain⟨u,v,y,B,C,E⟩:=b.out.x.c6;clear l2 x0 x1 Q;rcases hT with rfl|rfl|rfl|rfl|rfl|rfl
  ·have a:Hid (Calls prog 33 #[.pointer (some ⟨bp,0,none⟩),int i64 z] w2 λe w'=>e=.returned (qa9 2)/\Below w2.heap.size w2 w'):=by
        obtain⟨_,_,p,_⟩:=b.out.d;exact qs2 z w2 p i.out.2
   go_wp2_with fail
   refine a.out.mono ?_;rintro e H ⟨rfl,s⟩;have h:Hid _:=b.out.later s;have l:=qa3 2 h.out.g;clear u v y B C E a
   go_wp2_with fail
   refine l.mono ?_;rintro e o ⟨rfl,m⟩
   go_wp2_with fail
   go_ret;exact(h.out.later m).acted i.out.1
  ·have a:Hid (Calls prog 25 #[.pointer (some ⟨bp,0,none⟩),int i64 z,int i64 n] w2 λe w'=>e=.returned (.tuple #[.string ⟨#[]⟩,qa9 2])/\Below w2.heap.size w2 w'):=by
        obtain⟨_,_,p,_⟩:=b.out.d;exact qvx z n w2 p i.out.2
   go_wp2_with fail
   refine a.out.mono ?_;rintro e H ⟨rfl,s⟩;have h:Hid _:=b.out.later s;have l:=qa3 2 h.out.g;clear u v y B C E a
   go_wp2_with fail
   refine l.mono ?_;rintro e o ⟨rfl,m⟩
   go_wp2_with fail
   go_ret;exact(h.out.later m).acted i.out.1
  ·have a:Hid (Calls prog 36 #[.pointer (some ⟨bp,0,none⟩),int i64 z,.agg #[int i64 xk,.string xd,.bool xg]] w2 λe w'=>e=.returned (qa9 2)/\Below w2.heap.size w2 w'):=by
        obtain⟨_,_,p,_⟩:=b.out.d;exact qsl z xk xd xg w2 p i.out.2
   go_wp2_with fail
   refine a.out.mono ?_;rintro e H ⟨rfl,s⟩;have h:Hid _:=b.out.later s;have l:=qa3 2 h.out.g;clear u v y B C E a
   go_wp2_with fail
   refine l.mono ?_;rintro e o ⟨rfl,m⟩
   go_wp2_with fail
   go_ret;exact(h.out.later m).acted i.out.1
  ·have R:=Pl.first (AC:=[int i64 0,int i64 0,int i64 0,int i64 0,int i64 0,int i64 0,int i64 0,int i64 0,.slice none 0 0]) b.out.d (.inl b.out.z) b.out.g 80;have bq:=boxed (Below.refl _ w2) (.cells #[int i64 0,int i64 0,int i64 0,int i64 0,int i64 0,int i64 0,int i64 0,int i64 0,.slice none 0 0] 80);have I:Hid (Pl w bp br w.heap.size [int i64 3,int i64 z,int i64 n,int i64 xk,.string xd,.bool xg] X W W (w2.alloc (.cells #[int i64 0,int i64 0,int i64 0,int i64 0,int i64 0,int i64 0,int i64 0,int i64 0,.slice none 0 0] 80))/\qag (w2.alloc (.cells #[int i64 0,int i64 0,int i64 0,int i64 0,int i64 0,int i64 0,int i64 0,int i64 0,.slice none 0 0] 80)) w2.heap.size [int i64 0,int i64 0,int i64 0,int i64 0,int i64 0,int i64 0,int i64 0,int i64 0,.slice none 0 0]):=⟨b.out.later bq,R.x⟩
   have a:Hid (Calls prog 38 #[.pointer (some ⟨bp,0,none⟩),int i64 z] (w2.alloc (.cells #[int i64 0,int i64 0,int i64 0,int i64 0,int i64 0,int i64 0,int i64 0,int i64 0,.slice none 0 0] 80)) λe w'=>e=.returned (.tuple #[.agg #[int i64 0,int i64 0,int i64 0,int i64 0,int i64 0,int i64 0,int i64 0,int i64 0,.slice none 0 0],qa9 2])/\Below (w2.alloc (.cells #[int i64 0,int i64 0,int i64 0,int i64 0,int i64 0,int i64 0,int i64 0,int i64 0,.slice none 0 0] 80)).heap.size (w2.alloc (.cells #[int i64 0,int i64 0,int i64 0,int i64 0,int i64 0,int i64 0,int i64 0,int i64 0,.slice none 0 0] 80)) w'):=by
        obtain⟨_,_,p,_⟩:=I.out.1.d;exact qrm z _ p i.out.2
   have l3:=b.out.x.lt;clear R
   go_wp2_with fail
   refine a.out.mono ?_;rintro e o ⟨rfl,m⟩;have J:=boxed (Below.refl _ o) (.cells #[int i64 0,int i64 0,int i64 0,int i64 0,int i64 0,int i64 0,int i64 0,int i64 0,.slice none 0 0] 80);have S:=qag.new (w:=o) (T:=80) (n:=o.heap.size) [int i64 0,int i64 0,int i64 0,int i64 0,int i64 0,int i64 0,int i64 0,int i64 0,.slice none 0 0] rfl;have U:Hid _:=(I.out.1.later m).later J;have l:=qa3 2 U.out.g;have V:Hid (qag (o.alloc (.cells #[int i64 0,int i64 0,int i64 0,int i64 0,int i64 0,int i64 0,int i64 0,int i64 0,.slice none 0 0] 80)) o.heap.size [int i64 0,int i64 0,int i64 0,int i64 0,int i64 0,int i64 0,int i64 0,int i64 0,.slice none 0 0]/\qag (o.alloc (.cells #[int i64 0,int i64 0,int i64 0,int i64 0,int i64 0,int i64 0,int i64 0,int i64 0,.slice none 0 0] 80)) w2.heap.size [int i64 0,int i64 0,int i64 0,int i64 0,int i64 0,int i64 0,int i64 0,int i64 0,.slice none 0 0]):=⟨S,(I.out.2.later m).later J⟩;clear S a u v y B C E
   go_wp2_with fail
   refine l.mono ?_;rintro e w8 ⟨rfl,K⟩;have Y:=V.out.1.later K;have Z:=V.out.2.later K;obtain⟨a0,a1,a2,a3,a4,a5,a6,a7,a8⟩:=Y.c9;obtain⟨b0,b1,b2,b3,b4,b5,b6,J,b8⟩:=Z.c9;have SM:=qtw 0 0 0 0 0 0 0 0 none none 0 0 [] w8 ⟨Nat.le_refl _,by omega,.inl rfl⟩ ⟨Nat.le_refl _,by omega,.inl rfl⟩;rw[show ([]:List Go.Proofs.YtemiamjnhoeniaaGreatDoor.Wr).length=0 from rfl]at SM;have P8:Hid _:=U.out.later K;clear l Y Z
   go_wp2_with fail
   refine SM.mono ?_;rintro e w9 ⟨rfl,hb9⟩
   go_wp2_with fail
   go_ret;exact(P8.out.later hb9).acted i.out.1
  ·have a:Hid (Calls prog 40 #[.pointer (some ⟨bp,0,none⟩),int i64 z] w2 λe w'=>e=.returned (qa9 2)/\Below w2.heap.size w2 w'):=by
        obtain⟨_,_,p,_⟩:=b.out.d;exact qr1 z w2 p i.out.2
   go_wp2_with fail
   refine a.out.mono ?_;rintro e H ⟨rfl,s⟩;have h:Hid _:=b.out.later s;have l:=qa3 2 h.out.g;clear u v y B C E a
   go_wp2_with fail
   refine l.mono ?_;rintro e o ⟨rfl,m⟩
   go_wp2_with fail
   go_ret;exact(h.out.later m).acted i.out.1
  ·have a:Hid (Calls prog 41 #[.pointer (some ⟨bp,0,none⟩),int i64 z,int i64 n] w2 λe w'=>e=.returned (qa9 2)/\Below w2.heap.size w2 w'):=by
        obtain⟨_,_,p,_⟩:=b.out.d;exact qu4 z n w2 p i.out.2
   go_wp2_with fail
   refine a.out.mono ?_;rintro e H ⟨rfl,s⟩;have h:Hid _:=b.out.later s;have l:=qa3 2 h.out.g;clear u v y B C E a
   go_wp2_with fail
   refine l.mono ?_;rintro e o ⟨rfl,m⟩
   go_wp2_with fail
   go_ret;exact(h.out.later m).acted i.out.1
theorem q2t (T n xk:Int) (xd:ByteArray) (xg:Bool) (w:World) (D:Duo w bp br W W X) (hI:PlI j W) (hk:k<W.c) (hT:T=0\/T=1\/T=2\/T=3\/T=4\/T=5) (hn:(Lit.int .i64 n).wf=true) (hj:j<=120) (hz:X 0) (hg:G0 w):
 Calls prog 10 #[.pointer (some ⟨bp,0,none⟩),.pointer (some ⟨br,0,none⟩),.agg #[int i64 T,int i64 k,int i64 n,int i64 xk,.string xd,.bool xg]] w (qlx w bp br j X):=by
 have ha:=hI.wf.at_ k hk;have P1:=Pl.first (AC:=[int i64 T,int i64 k,int i64 n,int i64 xk,.string xd,.bool xg]) D hz hg 36;obtain⟨Gp,M,Gs,A1⟩:=P1.d.at;obtain⟨ca,cca,da,dda,c2,hcl,c3,hdl,hcell⟩:=A1.r.clientsAt;obtain⟨cg,cg',rfl,rfl,hcg,hcg',hcell⟩:=hcell (by omega);obtain⟨sg,scap,c0,hscap,hsg,hsc⟩:=A1.r.sitesAt ha;have l0:=Later.cell c0;have l2:=Later.cell c2;have l3:=Later.cell c3;have K:=Later.cell (hcell k hk).1;have k3:=Later.cell (hcell k hk).2;have k0:=Later.cell (hsc _ ha);have x0:=Later.cell (P1.x.cell 0 _ rfl);have x1:=Later.cell (P1.x.cell 1 _ rfl);have x2:=Later.cell (P1.x.cell 2 _ rfl);have hne:=Later.one
 have q1:(k:Int)<(W.c:Int):=by omega
 have q2:(W.at_ k:Int)<(W.n:Int):=by omega
 have q3:¬(k:Int)<0:=by omega
 have q4:¬(W.c:Int)<=(k:Int):=by omega
 have q5:decide ((k:Int)<0)=false:=decide_eq_false (by omega);have q6:decide ((W.c:Int)<=(k:Int))=false:=decide_eq_false (by omega);have a:Hid (PlI j W/\k<W.c/\W.at_ k<W.n):=⟨hI,hk,ha⟩;have HP:Hid _:=P1;have HA:Hid _:=A1;have C0:Hid ((∀w',Below (w.alloc (.cells #[int i64 T,int i64 k,int i64 n,int i64 xk,.string xd,.bool xg] 36)).heap.size (w.alloc (.cells #[int i64 T,int i64 k,int i64 n,int i64 xk,.string xd,.bool xg] 36)) w'->w'.cell? ⟨br,0,none⟩=some (.slice (some ⟨sg,0,none⟩) W.n scap))/\∀w',Below (w.alloc (.cells #[int i64 T,int i64 k,int i64 n,int i64 xk,.string xd,.bool xg] 36)).heap.size (w.alloc (.cells #[int i64 T,int i64 k,int i64 n,int i64 xk,.string xd,.bool xg] 36)) w'->w'.cell? ⟨br,3,none⟩=some (.slice (some ⟨cg',0,none⟩) W.c dda)):=⟨λw' hb=>cell_later hb c0,λw' hb=>cell_later hb c3⟩;have HJ:Hid _:=hj;have R:Hid _:=hn;clear hj hn;clear D hI hk ha P1 A1 hcell hsc hz hg c0 c2 c3;go_enter func10,ntmps10
 go_wp2_with fail
 refine qaa (by kernel_rfl) (by kernel_rfl) ?_
 repeat (go_big_quiet_step (first|rfl|fail))
 refine wpQuiet_nil ?_;rintro w2 ⟨⟨_,aa⟩,rfl⟩;have l0b:=λx:Later w2=>l0 ⟨x.val,qac aa x.below⟩;have l2b:=λx:Later w2=>l2 ⟨x.val,qac aa x.below⟩;have l3b:=λx:Later w2=>l3 ⟨x.val,qac aa x.below⟩;have k2b:=λx:Later w2=>K ⟨x.val,qac aa x.below⟩;have k3b:=λx:Later w2=>k3 ⟨x.val,qac aa x.below⟩;have k0b:=λx:Later w2=>k0 ⟨x.val,qac aa x.below⟩;have x1b:=λx:Later w2=>x1 ⟨x.val,qac aa x.below⟩
 go_wp2_with fail
 refine qaa (by kernel_rfl) (by kernel_rfl) ?_
 repeat (go_big_quiet_step (first|rfl|fail))
 refine wpQuiet_nil ?_;rintro L ⟨⟨_,hb3⟩,rfl⟩;have hb13:=qac aa hb3;have h:Hid _:=HP.out.later hb13;have A3:Hid _:=HA.out.later hb13;clear l0 l2 l3 K k3 k0 x0 x1 x2 l0b l2b l3b k2b k3b k0b x1b HP HA;rcases hT with rfl|rfl|rfl|rfl|rfl|rfl
 ·have m:=h.out.x.cell 0 _ rfl;have o:=h.out.x.cell 1 _ rfl;have C:=qyp A3.out a.out.2.1 a.out.2.2
  go_wp2_with fail
  refine C.mono ?_;rintro e i ⟨rfl,h4⟩;have b:Hid _:=h.out.step h4;clear m o h4 C;have m:=b.out.x.cell 0 _ rfl;have o:=b.out.x.cell 1 _ rfl
  have y:Hid (Calls prog 33 #[.pointer (some ⟨bp,0,none⟩),int i64 k] i λe w'=>e=.returned (qa9 (qn5 (W.S (W.at_ k)) (W.ses k)))/\Pl w bp br w.heap.size [int i64 0,int i64 k,int i64 n,int i64 xk,.string xd,.bool xg] X (qb0 W k (qne (W.S (W.at_ k)) (W.ses k))) (qb0 W k (qne (W.S (W.at_ k)) (W.ses k))) w'):=by
   obtain⟨Gp,Gr,p,r,d,U⟩:=b.out.d;exact(q1x i p a.out.1.wf a.out.2.1).mono λe w' ⟨O,V⟩=>⟨O,b.out.step (qcx r d U V)⟩
  go_wp2_with fail
  refine y.out.mono ?_;rintro e H ⟨rfl,E⟩;have B:Hid _:=E;have I:=qa3 (qn5 (W.S (W.at_ k)) (W.ses k)) B.out.g;clear m o E y
  go_wp2_with fail
  refine I.mono ?_;rintro e J ⟨rfl,N⟩
  go_wp2_with fail
  go_ret;exact(B.out.later N).acted ((a.out.1.begin a.out.2.1).mono (Nat.le_succ j))
 ·have m:=h.out.x.cell 0 _ rfl;have o:=h.out.x.cell 1 _ rfl;have P:=h.out.x.cell 2 _ rfl;have C:=q2z A3.out a.out.2.1 a.out.2.2 (a.out.1.wf.inv _ a.out.2.2) n;obtain⟨⟨vs,ve⟩,hv⟩:∃v,qc0 (W.S (W.at_ k)) (W.ses k) n=v:=⟨_,rfl⟩;rw[hv]at C
  go_wp2_with fail
  refine C.mono ?_;rintro e i ⟨rfl,hb4⟩;have b:Hid _:=h.out.later hb4;clear m o P C;have m:=b.out.x.cell 0 _ rfl;have o:=b.out.x.cell 1 _ rfl;have P:=b.out.x.cell 2 _ rfl
  have y:Hid (Calls prog 25 #[.pointer (some ⟨bp,0,none⟩),int i64 k,int i64 n] i λe w'=>e=.returned (.tuple #[.string vs,qa9 ve])/\Below i.heap.size i w'):=by
   obtain⟨_,_,p,_⟩:=b.out.d;have:=q3q n R.out i p a.out.1.wf a.out.2.1;rw[hv]at this;exact this
  clear hv
  go_wp2_with fail
  refine y.out.mono ?_;rintro e H ⟨rfl,hb5⟩;have B:Hid _:=b.out.later hb5;have I:=qa3 ve B.out.g;clear m o P y
  go_wp2_with fail
  refine I.mono ?_;rintro e J ⟨rfl,N⟩
  go_wp2_with fail
  go_ret;simp;exact(B.out.later N).acted (a.out.1.mono (Nat.le_succ j))
 ·have m:=h.out.x.cell 0 _ rfl;have o:=h.out.x.cell 1 _ rfl;have z3:=h.out.x.cell 3 _ rfl;have z4:=h.out.x.cell 4 _ rfl;have z5:=h.out.x.cell 5 _ rfl;have C:=qxq A3.out a.out.2.1 ⟨xk,xd,xg⟩ (by have:=a.out.1.ln k a.out.2.1;have:=HJ.out;omega);rw[show wrV ⟨xk,xd,xg⟩=.agg #[int i64 xk,.string xd,.bool xg]from rfl]at C
  go_wp2_with fail
  refine C.mono ?_;rintro e i ⟨rfl,h4⟩;have b:Hid _:=h.out.step h4;clear m o z3 z4 z5 h4 C;have m:=b.out.x.cell 0 _ rfl;have o:=b.out.x.cell 1 _ rfl;have z3:=b.out.x.cell 3 _ rfl;have z4:=b.out.x.cell 4 _ rfl;have z5:=b.out.x.cell 5 _ rfl
  have y:Hid (Calls prog 36 #[.pointer (some ⟨bp,0,none⟩),int i64 k,.agg #[int i64 xk,.string xd,.bool xg]] i λe w'=>e=.returned (qa9 (qfi (W.ses k) ⟨xk,xd,xg⟩))/\Pl w bp br w.heap.size [int i64 2,int i64 k,int i64 n,int i64 xk,.string xd,.bool xg] X (qb0 W k (qk2 (W.ses k) ⟨xk,xd,xg⟩)) (qb0 W k (qk2 (W.ses k) ⟨xk,xd,xg⟩)) w'):=by
   obtain⟨Gp,Gr,p,r,d,U⟩:=b.out.d;exact(q1t xk xd xg i p a.out.2.1).mono λe w' ⟨O,V⟩=>⟨O,b.out.step (qcx r d U V)⟩
  go_wp2_with fail
  refine y.out.mono ?_;rintro e H ⟨rfl,E⟩;have B:Hid _:=E;have I:=qa3 (qfi (W.ses k) ⟨xk,xd,xg⟩) B.out.g;clear m o z3 z4 z5 E y
  go_wp2_with fail
  refine I.mono ?_;rintro e J ⟨rfl,N⟩
  go_wp2_with fail
  go_ret;exact(B.out.later N).acted (a.out.1.write a.out.2.1 ⟨xk,xd,xg⟩)
 ·obtain⟨⟨m0,m1,m2,m3,m4,m5,m6,m7,G⟩,ht⟩:∃t,wcT W k=t:=⟨_,rfl⟩;obtain⟨ce,hce⟩:∃ce,wcE W k=ce:=⟨_,rfl⟩;have Q3:=Pl.first (AC:=[int i64 0,int i64 0,int i64 0,int i64 0,int i64 0,int i64 0,int i64 0,int i64 0,.slice none 0 0]) h.out.d (.inl h.out.z) h.out.g 80;have hx3:=h.out.x.keeps Q3.k (.inr rfl);have C:=qu5 Q3.d a.out.1 a.out.2.1 ht;rw[hce]at C;have HQ:Hid _:=Q3;have HX:Hid (wcT W k=⟨m0,m1,m2,m3,m4,m5,m6,m7,G⟩/\wcE W k=ce):=⟨ht,hce⟩;have m:=hx3.cell 0 _ rfl;have o:=hx3.cell 1 _ rfl;have z00:=h.out.x.cell 0 _ rfl;have l3:=h.out.x.lt;clear Q3 hx3 ht hce
  go_wp2_with fail
  refine C.mono ?_;rintro e i ⟨ma,mc,rfl,H4⟩;have RT4:=HQ.out.x.keeps H4.out.2 (.inr rfl);obtain⟨t0,t1,t2,t3,t4,t5,t6,t7,t8⟩:=RT4.c9;obtain⟨f0,f1,f2,f3,f4,f5,f6,f7,f8⟩:=RT4.f9;have RS:=qbk RT4 rfl m0 m1 m2 m3 m4 m5 m6 m7 (.slice ma G.length mc);have TS:=qbz (F:=λq=>(X q\/q=w.heap.size)\/q=L.heap.size) (qae.ofBelow (Below.refl _ i)) (.inr rfl) m0 m1 m2 m3 m4 m5 m6 m7 (.slice ma G.length mc);have KS:qby (λq=>X q\/q=w.heap.size) i (qbg i L.heap.size m0 m1 m2 m3 m4 m5 m6 m7 (.slice ma G.length mc)):=⟨TS.os,TS.tape,TS.output,TS.size,λq e=>qda (λe2=>by have:=HQ.out.l q e;omega) _ _ _ _ _ _ _ _ _⟩;obtain⟨H,hw5⟩:∃H,qbg i L.heap.size m0 m1 m2 m3 m4 m5 m6 m7 (.slice ma G.length mc)=H:=⟨_,rfl⟩;rw[hw5]at RS TS KS;have D5:=H4.out.1.kept TS
  have K5:qby (λq=>X q\/q=w.heap.size) L H:=by
   have Q:=HQ.out.k;have K:=H4.out.2;exact⟨KS.os.trans (K.os.trans Q.os),KS.tape.trans (K.tape.trans Q.tape),KS.output.trans (K.output.trans Q.output),Nat.le_trans Q.size (Nat.le_trans K.size KS.size),λq e=>(KS.block q e).trans ((K.block q (.inl e)).trans (Q.block q e))⟩
  have y:=qr8 D5 a.out.1 a.out.2.1 HX.out.1;rw[HX.out.2]at y;have H5:Hid (qag H L.heap.size [int i64 m0,int i64 m1,int i64 m2,int i64 m3,int i64 m4,int i64 m5,int i64 m6,int i64 m7,.slice ma G.length mc]/\qby (λq=>X q\/q=w.heap.size) L H):=⟨RS,K5⟩;have hx5:=h.out.x.keeps K5 (.inr rfl);have y1:=hx5.cell 1 _ rfl;simp only[qbg]at hw5;clear RS TS KS D5 K5 C hx5
  go_wp2_with (rw[hw5])
  refine y.mono ?_;rintro e J ⟨Y,Z,rfl,H6⟩;clear t0 f0 t1 f1 t2 f2 t3 f3 t4 f4 t5 f5 t6 f6 t7 f7 t8 f8 y1 m o z00 y hw5 RT4;have b7:=boxed (Below.refl _ J) (.cells #[int i64 m0,int i64 m1,int i64 m2,int i64 m3,int i64 m4,int i64 m5,int i64 m6,int i64 m7,.slice Y G.length Z] 80);have R7:=qag.new (w:=J) (T:=80) (n:=J.heap.size) [int i64 m0,int i64 m1,int i64 m2,int i64 m3,int i64 m4,int i64 m5,int i64 m6,int i64 m7,.slice Y G.length Z] rfl;have RT6:=H5.out.1.keeps H6.out.2.2.2 (.inr rfl);have RT7:=RT6.later b7
  have K6:qby (λq=>X q\/q=w.heap.size) L J:=by
   have Q:=H5.out.2;have K:=H6.out.2.2.2;exact⟨K.os.trans Q.os,K.tape.trans Q.tape,K.output.trans Q.output,Nat.le_trans Q.size K.size,λq e=>(K.block q (.inl e)).trans (Q.block q e)⟩
  have P6:Hid _:=h.out.step ⟨H6.out.2.2.1.less (λ_ e=>.inl e),K6⟩;have P7:Hid _:=P6.out.later b7;have I:=qa3 ce P7.out.g;have HR:Hid (qag (J.alloc (.cells #[int i64 m0,int i64 m1,int i64 m2,int i64 m3,int i64 m4,int i64 m5,int i64 m6,int i64 m7,.slice Y G.length Z] 80)) J.heap.size [int i64 m0,int i64 m1,int i64 m2,int i64 m3,int i64 m4,int i64 m5,int i64 m6,int i64 m7,.slice Y G.length Z]/\qag (J.alloc (.cells #[int i64 m0,int i64 m1,int i64 m2,int i64 m3,int i64 m4,int i64 m5,int i64 m6,int i64 m7,.slice Y G.length Z] 80)) L.heap.size [int i64 m0,int i64 m1,int i64 m2,int i64 m3,int i64 m4,int i64 m5,int i64 m6,int i64 m7,.slice ma G.length mc]/\qat (J.alloc (.cells #[int i64 m0,int i64 m1,int i64 m2,int i64 m3,int i64 m4,int i64 m5,int i64 m6,int i64 m7,.slice Y G.length Z] 80)) Y Z G/\qat (J.alloc (.cells #[int i64 m0,int i64 m1,int i64 m2,int i64 m3,int i64 m4,int i64 m5,int i64 m6,int i64 m7,.slice Y G.length Z] 80)) ma mc G):=⟨R7,RT7,H6.out.1.later b7,H6.out.2.1.later b7⟩;clear R7 RT6 RT7 K6
  go_wp2_with fail
  refine I.mono ?_;rintro e w8 ⟨rfl,hb8⟩;have RA:=HR.out.1.later hb8;have RB:=HR.out.2.1.later hb8;obtain⟨a0,a1,a2,a3,a4,a5,a6,a7,a8⟩:=RA.c9;obtain⟨b0,b1,b2,b3,b4,b5,b6,b7,b8⟩:=RB.c9;have SM:=qtw m0 m1 m2 m3 m4 m5 m6 m7 Y ma Z mc G w8 (HR.out.2.2.1.later hb8) (HR.out.2.2.2.later hb8);have P8:Hid _:=P7.out.later hb8;clear I RA RB
  go_wp2_with fail
  refine SM.mono ?_;rintro e w9 ⟨rfl,hb9⟩
  go_wp2_with fail
  go_ret;exact(P8.out.later hb9).acted ((a.out.1.commit a.out.2.1).mono (Nat.le_succ j))
 ·have m:=h.out.x.cell 0 _ rfl;have o:=h.out.x.cell 1 _ rfl;have C:=qw7 A3.out a.out.2.1
  go_wp2_with fail
  refine C.mono ?_;rintro e i ⟨rfl,h4⟩;have b:Hid _:=h.out.step h4;clear m o h4 C;have m:=b.out.x.cell 0 _ rfl;have o:=b.out.x.cell 1 _ rfl
  have y:Hid (Calls prog 40 #[.pointer (some ⟨bp,0,none⟩),int i64 k] i λe w'=>e=.returned (qa9 (qps (W.ses k)))/\Pl w bp br w.heap.size [int i64 4,int i64 k,int i64 n,int i64 xk,.string xd,.bool xg] X (qb0 W k (qnz (W.ses k))) (qb0 W k (qnz (W.ses k))) w'):=by
   obtain⟨Gp,Gr,p,r,d,U⟩:=b.out.d;exact(q0i i p a.out.2.1).mono λe w' ⟨O,V⟩=>⟨O,b.out.step (qcx r d U V)⟩
  go_wp2_with fail
  refine y.out.mono ?_;rintro e H ⟨rfl,E⟩;have B:Hid _:=E;have I:=qa3 (qps (W.ses k)) B.out.g;clear m o E y
  go_wp2_with fail
  refine I.mono ?_;rintro e J ⟨rfl,N⟩
  go_wp2_with fail
  go_ret;exact(B.out.later N).acted ((a.out.1.abort a.out.2.1).mono (Nat.le_succ j))
 ·by_cases hn5:0<=n/\n<(W.n:Int)
  ·have R:Hid _:=hn5;have q7:decide (n<0)=false:=decide_eq_false (by omega);have q8:decide ((W.n:Int)<=n)=false:=decide_eq_false (by omega);clear hn5;have l0:=Later.cell (show L.cell? ⟨br,0,none⟩=some (.slice (some ⟨sg,0,none⟩) W.n scap)from C0.out.1 L hb13);have xx0:=Later.cell (h.out.x.cell 0 _ rfl);have xx1:=Later.cell (h.out.x.cell 1 _ rfl);have xx2:=Later.cell (h.out.x.cell 2 _ rfl);have y0:=h.out.x.cell 0 _ rfl;obtain⟨_,_,_,_,so,sl⟩:=(A3.out.r.sess a.out.2.1).snap;have so9:=λw' (hb:Below L.heap.size L w')=>cell_later hb so
   go_wp2_with fail
   clear y0;refine qaa (by kernel_rfl) (by kernel_rfl) ?_
   repeat (go_big_quiet_step (first|rfl|fail))
   refine wpQuiet_nil ?_;rintro i ⟨⟨_,hb4⟩,rfl⟩;have b:Hid _:=h.out.later hb4;have A4:Hid _:=A3.out.later hb4;have so4:=so9 i hb4;have sl4:M.bs k<i.heap.size:=Nat.lt_of_lt_of_le sl hb4.size;have m:=b.out.x.cell 0 _ rfl;have o:=b.out.x.cell 1 _ rfl;have P:=b.out.x.cell 2 _ rfl;clear l0 xx0 xx1 xx2 so so9;cases ho:(W.ses k).opn
   ·rw[ho]at so4;have HO:Hid (qo5 W k=0/\qjz W k n.toNat={W with at_:=qb2 W.at_ k n.toNat}):=⟨by unfold qo5;rw[ho];rfl,by unfold qjz;rw[ho];rfl⟩;clear ho;obtain⟨av,avc,hav,ar⟩:=qan A4.out.r.ar
    obtain⟨ag,rfl,hag,hac⟩:∃g,av=some ⟨g,0,none⟩/\g<i.heap.size/\∀j u,(qf9 (λk=>(W.at_ k:Int)) W.c)[j]?=some u->i.cell? ⟨g,j,none⟩=some u:=by
     rcases ar.held with h0|h0
     ·have:=a.out.2.1;omega
     ·exact h0
    have d3:=A4.out.r.box.cell 3 _ rfl;rw[hav]at d3;have d4:=hac _ _ (qkx a.out.2.1);have o4:=A4.out.r.ar;rw[hav]at o4;have d5:=o4.frozenAt k;have hal:=ar.len;have bl:=A4.out.r.box.lt
    have MV:Hid (Duo (i.setCell ⟨ag,k,none⟩ (int i64 n)) bp br W (qjz W k n.toNat) (λq=>X q\/q=w.heap.size)/\qby (λq=>X q\/q=w.heap.size) i (i.setCell ⟨ag,k,none⟩ (int i64 n))):=by
     have s:=A4.out.r.setAt hav a.out.2.1 n.toNat;rw[show ((n.toNat:Nat):Int)=n by have:=R.out;omega]at s;refine A4.out.ref ?_;rw[HO.out.2]
     have gf:qav br M ag:=by unfold qav qd5;rw[hav];simp[Value.ownBlock]
     exact⟨_,⟨M,Gs,s.1,λ_=>Iff.rfl⟩,λq e=>.inl e,⟨s.2.os,s.2.tape,s.2.output,s.2.size,λq hq hn=>s.2.block q hq (λe=>hn (.inl (by rw[e];exact gf)))⟩⟩
    clear hac ar hav o4
    go_wp2_with fail
    go_region
    all_goals
     have B:Hid _:=(b.out.step MV.out).later (Below.refl _ _).drew;clear m o P d3 d4 d5;have m:=B.out.x.cell 0 _ rfl;have o:=B.out.x.cell 1 _ rfl;have P:=B.out.x.cell 2 _ rfl;obtain⟨H,hw5⟩:∃H,(i.setCell ⟨ag,k,none⟩ (int i64 n)).drew=H:=⟨_,rfl⟩;rw[hw5]at B m o P ⊢;clear hw5
     have y:Hid (Calls prog 41 #[.pointer (some ⟨bp,0,none⟩),int i64 k,int i64 n] H λe w'=>e=.returned (qa9 (0))/\Pl w bp br w.heap.size [int i64 5,int i64 k,int i64 n,int i64 xk,.string xd,.bool xg] X (qjz W k n.toNat) (qjz W k n.toNat) w'):=by
       obtain⟨Gp,Gr,p,r,d,U⟩:=B.out.d
       exact by
         have:=qw5 H p (to:=n.toNat) a.out.2.1 (by have:=R.out;omega);rw[HO.out.1,show ((n.toNat:Nat):Int)=n by have:=R.out;omega]at this;exact this.mono λe w' ⟨O,V⟩=>⟨O,B.out.step (qcx r d U V)⟩
     go_wp2_with fail
     refine y.out.mono ?_;rintro e w7 ⟨rfl,E⟩;have P7:Hid _:=E;have I:=qa3 0 P7.out.g;clear E y m o P
     go_wp2_with fail
     refine I.mono ?_;rintro e J ⟨rfl,N⟩
     go_wp2_with fail
     go_ret;exact(P7.out.later N).acted ((a.out.1.move (by have:=R.out;omega)).mono (Nat.le_succ j))
   ·rw[ho]at so4;have HO:Hid (qo5 W k=6/\qjz W k n.toNat=W):=⟨by unfold qo5;rw[if_pos ho],by unfold qjz;rw[if_pos ho]⟩;clear ho
    have y:Hid (Calls prog 41 #[.pointer (some ⟨bp,0,none⟩),int i64 k,int i64 n] i λe w'=>e=.returned (qa9 (6))/\Pl w bp br w.heap.size [int i64 5,int i64 k,int i64 n,int i64 xk,.string xd,.bool xg] X (W) (W) w'):=by
     obtain⟨Gp,Gr,p,r,d,U⟩:=b.out.d
     exact by
       have:=qw5 i p (to:=n.toNat) a.out.2.1 (by have:=R.out;omega);rw[HO.out.1,HO.out.2,show ((n.toNat:Nat):Int)=n by have:=R.out;omega]at this;exact this.mono λe w' ⟨O,V⟩=>⟨O,b.out.step (qcx r d U V)⟩
    go_wp2_with fail
    refine y.out.mono ?_;rintro e H ⟨rfl,E⟩;have B:Hid _:=E;have I:=qa3 (6) B.out.g;clear E y m o P
    go_wp2_with fail
    refine I.mono ?_;rintro e J ⟨rfl,N⟩
    go_wp2_with fail
    go_ret;exact(B.out.later N).acted (a.out.1.mono (Nat.le_succ j))
  ·have R:Hid _:=hn5
   have q9:decide (n<0)=true\/(decide (n<0)=false/\decide ((W.n:Int)<=n)=true):=by
        by_cases q:n<0
        ·exact .inl (decide_eq_true q)
        ·exact .inr ⟨decide_eq_false q,decide_eq_true (by omega)⟩
   clear hn5;rcases q9 with q7|⟨q7,q8⟩
   all_goals
        have l0:=Later.cell (show L.cell? ⟨br,0,none⟩=some (.slice (some ⟨sg,0,none⟩) W.n scap)from C0.out.1 L hb13);have xx0:=Later.cell (h.out.x.cell 0 _ rfl);have xx1:=Later.cell (h.out.x.cell 1 _ rfl);have xx2:=Later.cell (h.out.x.cell 2 _ rfl);have y0:=h.out.x.cell 0 _ rfl
        go_wp2_with fail
        clear y0;refine qaa (by kernel_rfl) (by kernel_rfl) ?_
        repeat (go_big_quiet_step (first|rfl|fail))
        refine wpQuiet_nil ?_;rintro i ⟨⟨_,hb4⟩,rfl⟩;have b:Hid _:=h.out.later hb4;have m:=b.out.x.cell 0 _ rfl;have o:=b.out.x.cell 1 _ rfl;have P:=b.out.x.cell 2 _ rfl;clear l0 xx0 xx1 xx2
        have y:Hid (Calls prog 41 #[.pointer (some ⟨bp,0,none⟩),int i64 k,int i64 n] i λe w'=>e=.returned (qa9 (2))/\Pl w bp br w.heap.size [int i64 5,int i64 k,int i64 n,int i64 xk,.string xd,.bool xg] X (W) (W) w'):=by
         obtain⟨Gp,Gr,p,r,d,U⟩:=b.out.d;exact(qr6 n i p a.out.2.1 R.out).mono λe w' ⟨O,hb⟩=>⟨O,b.out.later hb⟩
        go_wp2_with fail
        refine y.out.mono ?_;rintro e H ⟨rfl,E⟩;have B:Hid _:=E;have I:=qa3 (2) B.out.g;clear E y m o P
        go_wp2_with fail
        refine I.mono ?_;rintro e J ⟨rfl,N⟩
        go_wp2_with fail
        go_ret;exact(B.out.later N).acted (a.out.1.mono (Nat.le_succ j))
end
end
section
open Tryz Go.Value Go.IntKind
section
variable {bp br j i:Nat} {W:WoS} {X:Nat->Prop}
theorem qr0 (T:Int) (z:Int) (n xk:Int) (xd:ByteArray) (xg:Bool) (w:World) (D:Duo w bp br W W X) (Q:PlI j W) (R:¬(0<=z/\z<(W.n:Int))) (hT:T=6\/T=7\/T=11) (S:X 0) (U:G0 w):
 Calls prog 11 #[.pointer (some ⟨bp,0,none⟩),.pointer (some ⟨br,0,none⟩),.agg #[int i64 T,int i64 z,int i64 n,int i64 xk,.string xd,.bool xg]] w (qlx w bp br j X):=by
 have m:=Pl.first (AC:=[int i64 T,int i64 z,int i64 n,int i64 xk,.string xd,.bool xg]) D S U 36
 have hc:∃a0 G H I,(w.alloc (.cells #[int i64 T,int i64 z,int i64 n,int i64 xk,.string xd,.bool xg] 36)).cell? ⟨br,0,none⟩=some (.slice a0 W.n G)/\(w.alloc (.cells #[int i64 T,int i64 z,int i64 n,int i64 xk,.string xd,.bool xg] 36)).cell? ⟨br,4,none⟩=some (.slice H W.net.length I):=by
  obtain⟨_,_,_,r,_⟩:=m.d;obtain⟨a0,G,_,_,H,I,c0,_,J,_⟩:=r.lens;exact⟨a0,G,H,I,c0,J⟩
 obtain⟨a0,G,H,I,c0,J⟩:=hc;have N:=Later.cell c0;have V:=Later.cell J;have x0:=Later.cell (m.x.cell 0 _ rfl);have x1:=Later.cell (m.x.cell 1 _ rfl);have x2:=Later.cell (m.x.cell 2 _ rfl);have hne:=Later.one;have Y:Hid (Pl w bp br w.heap.size [int i64 T,int i64 z,int i64 n,int i64 xk,.string xd,.bool xg] X W W (w.alloc (.cells #[int i64 T,int i64 z,int i64 n,int i64 xk,.string xd,.bool xg] 36))):=m;have O:Hid (PlI j W):=Q;have K:Hid (¬(0<=z/\z<(W.n:Int))):=R;clear R
 have q:decide (0<=z)=false\/(decide (0<=z)=true/\decide (z<(W.n:Int))=false):=by
  by_cases q:0<=z
  ·exact .inr ⟨decide_eq_true q,decide_eq_false (by have:=K.out;omega)⟩
  ·exact .inl (decide_eq_false q)
 clear D Q m S U c0 J;rcases q with q1|⟨q1,q2⟩
 all_goals
  go_enter func11,ntmps11
  go_wp2_with fail
  refine qaa (by kernel_rfl) (by kernel_rfl) ?_
  repeat (go_big_quiet_step (first|rfl|fail))
  refine wpQuiet_nil ?_;rintro w2 ⟨⟨_,L⟩,rfl⟩;have l0b:=λx:Later w2=>N ⟨x.val,qac L x.below⟩;have l4b:=λx:Later w2=>V ⟨x.val,qac L x.below⟩;have x1b:=λx:Later w2=>x1 ⟨x.val,qac L x.below⟩
  go_wp2_with fail
  refine qaa (by kernel_rfl) (by kernel_rfl) ?_
  repeat (go_big_quiet_step (first|rfl|fail))
  refine wpQuiet_nil ?_;rintro b ⟨⟨_,hb3⟩,rfl⟩;have M:=qac L hb3;have c:Hid (Pl w bp br w.heap.size [int i64 T,int i64 z,int i64 n,int i64 xk,.string xd,.bool xg] X W W b):=Y.out.later M;have l0c:=λx:Later b=>N ⟨x.val,qac M x.below⟩;have x1c:=λx:Later b=>x1 ⟨x.val,qac M x.below⟩;have x2c:=λx:Later b=>x2 ⟨x.val,qac M x.below⟩;clear N V x0 x1 x2 l0b l4b x1b Y;have o:=c.out.x.cell 0 _ rfl;have s:=c.out.x.cell 1 _ rfl;have u:=c.out.x.cell 2 _ rfl;rcases hT with rfl|rfl|rfl
  ·have h:Hid (Calls prog 42 #[.pointer (some ⟨bp,0,none⟩),int i64 z,int i64 n] b λe w'=>e=.returned (qa9 2)/\∃k,Hid (k=W)/\Pl w bp br w.heap.size [int i64 6,int i64 z,int i64 n,int i64 xk,.string xd,.bool xg] X k (W) w'):=by
        obtain⟨Z,Gr,p,r,d,hX⟩:=c.out.d;exact(qux z n b p K.out).mono λe w' ⟨v,hb⟩=>⟨v,W,rfl,c.out.later hb⟩
   go_wp2_with fail
   refine h.out.mono ?_;rintro e y ⟨rfl,W7,B,a⟩;rw[B.out]at a;have l:Hid (Pl w bp br w.heap.size [int i64 6,int i64 z,int i64 n,int i64 xk,.string xd,.bool xg] X (W) (W) y):=a;have C:=qa3 2 l.out.g;clear a h o s u
   go_wp2_with fail
   refine C.mono ?_;rintro e w8 ⟨rfl,E⟩
   go_wp2_with fail
   go_ret;exact(l.out.later E).acted (O.out.mono (Nat.le_succ j))
  ·go_wp2_with fail
   refine qaa (by kernel_rfl) (by kernel_rfl) ?_
   repeat (go_big_quiet_step (first|rfl|fail))
   refine wpQuiet_nil ?_;rintro P ⟨⟨_,hb4⟩,rfl⟩;have F:Hid (Pl w bp br w.heap.size [int i64 7,int i64 z,int i64 n,int i64 xk,.string xd,.bool xg] X W W P):=c.out.later hb4;clear o s u l0c x1c x2c;have o:=F.out.x.cell 0 _ rfl;have s:=F.out.x.cell 1 _ rfl;have u:=F.out.x.cell 2 _ rfl
   have h:Hid (Calls prog 44 #[.pointer (some ⟨bp,0,none⟩),int i64 z,int i64 n] P λe w'=>e=.returned (qa9 2)/\∃k,Hid (k=W)/\Pl w bp br w.heap.size [int i64 7,int i64 z,int i64 n,int i64 xk,.string xd,.bool xg] X k (W) w'):=by
        obtain⟨Z,Gr,p,r,d,hX⟩:=F.out.d;exact(qyq z n P p K.out).mono λe w' ⟨v,hb⟩=>⟨v,W,rfl,F.out.later hb⟩
   go_wp2_with fail
   refine h.out.mono ?_;rintro e y ⟨rfl,W7,B,a⟩;rw[B.out]at a;have l:Hid (Pl w bp br w.heap.size [int i64 7,int i64 z,int i64 n,int i64 xk,.string xd,.bool xg] X (W) (W) y):=a;have C:=qa3 2 l.out.g;clear a h o s u
   go_wp2_with fail
   refine C.mono ?_;rintro e w8 ⟨rfl,E⟩
   go_wp2_with fail
   go_ret;exact(l.out.later E).acted (O.out.mono (Nat.le_succ j))
  ·have h:Hid (Calls prog 52 #[.pointer (some ⟨bp,0,none⟩),int i64 z] b λe w'=>e=.returned (qa9 2)/\∃k,Hid (k=W)/\Pl w bp br w.heap.size [int i64 11,int i64 z,int i64 n,int i64 xk,.string xd,.bool xg] X k (W) w'):=by
        obtain⟨Z,Gr,p,r,d,hX⟩:=c.out.d;exact(qsm z b p K.out).mono λe w' ⟨v,hb⟩=>⟨v,W,rfl,c.out.later hb⟩
   go_wp2_with fail
   refine h.out.mono ?_;rintro e y ⟨rfl,W7,B,a⟩;rw[B.out]at a;have l:Hid (Pl w bp br w.heap.size [int i64 11,int i64 z,int i64 n,int i64 xk,.string xd,.bool xg] X (W) (W) y):=a;have C:=qa3 2 l.out.g;clear a h o s u
   go_wp2_with fail
   refine C.mono ?_;rintro e w8 ⟨rfl,E⟩
   go_wp2_with fail
   go_ret;exact(l.out.later E).acted (O.out.mono (Nat.le_succ j))
theorem qu9 (T:Int) (z:Int) (n xk:Int) (xd:ByteArray) (xg:Bool) (w:World) (D:Duo w bp br W W X) (O:PlI j W) (P:¬(0<=z/\z<(W.net.length:Int))) (hT:T=8\/T=9\/T=10) (Q:X 0) (R:G0 w):
 Calls prog 11 #[.pointer (some ⟨bp,0,none⟩),.pointer (some ⟨br,0,none⟩),.agg #[int i64 T,int i64 z,int i64 n,int i64 xk,.string xd,.bool xg]] w (qlx w bp br j X):=by
 have m:=Pl.first (AC:=[int i64 T,int i64 z,int i64 n,int i64 xk,.string xd,.bool xg]) D Q R 36
 have hc:∃a0 B C E,(w.alloc (.cells #[int i64 T,int i64 z,int i64 n,int i64 xk,.string xd,.bool xg] 36)).cell? ⟨br,0,none⟩=some (.slice a0 W.n B)/\(w.alloc (.cells #[int i64 T,int i64 z,int i64 n,int i64 xk,.string xd,.bool xg] 36)).cell? ⟨br,4,none⟩=some (.slice C W.net.length E):=by
  obtain⟨_,_,_,r,_⟩:=m.d;obtain⟨a0,B,_,_,C,E,c0,_,F,_⟩:=r.lens;exact⟨a0,B,C,E,c0,F⟩
 obtain⟨a0,B,C,E,c0,F⟩:=hc;have J:=Later.cell c0;have S:=Later.cell F;have x0:=Later.cell (m.x.cell 0 _ rfl);have x1:=Later.cell (m.x.cell 1 _ rfl);have x2:=Later.cell (m.x.cell 2 _ rfl);have hne:=Later.one;have U:Hid (Pl w bp br w.heap.size [int i64 T,int i64 z,int i64 n,int i64 xk,.string xd,.bool xg] X W W (w.alloc (.cells #[int i64 T,int i64 z,int i64 n,int i64 xk,.string xd,.bool xg] 36))):=m;have K:Hid (PlI j W):=O;have G:Hid (¬(0<=z/\z<(W.net.length:Int))):=P;clear P
 have q:decide (0<=z)=false\/(decide (0<=z)=true/\decide (z<(W.net.length:Int))=false):=by
  by_cases q:0<=z
  ·exact .inr ⟨decide_eq_true q,decide_eq_false (by have:=G.out;omega)⟩
  ·exact .inl (decide_eq_false q)
 clear D O m Q R c0 F;rcases q with q1|⟨q1,q2⟩
 all_goals
  go_enter func11,ntmps11
  go_wp2_with fail
  refine qaa (by kernel_rfl) (by kernel_rfl) ?_
  repeat (go_big_quiet_step (first|rfl|fail))
  refine wpQuiet_nil ?_;rintro w2 ⟨⟨_,H⟩,rfl⟩;have l0b:=λx:Later w2=>J ⟨x.val,qac H x.below⟩;have l4b:=λx:Later w2=>S ⟨x.val,qac H x.below⟩;have x1b:=λx:Later w2=>x1 ⟨x.val,qac H x.below⟩
  go_wp2_with fail
  refine qaa (by kernel_rfl) (by kernel_rfl) ?_
  repeat (go_big_quiet_step (first|rfl|fail))
  refine wpQuiet_nil ?_;rintro b ⟨⟨_,hb3⟩,rfl⟩;have I:=qac H hb3;have c:Hid (Pl w bp br w.heap.size [int i64 T,int i64 z,int i64 n,int i64 xk,.string xd,.bool xg] X W W b):=U.out.later I;have l0c:=λx:Later b=>J ⟨x.val,qac I x.below⟩;have x1c:=λx:Later b=>x1 ⟨x.val,qac I x.below⟩;have x2c:=λx:Later b=>x2 ⟨x.val,qac I x.below⟩;clear J S x0 x1 x2 l0b l4b x1b U;have L:=c.out.x.cell 0 _ rfl;have M:=c.out.x.cell 1 _ rfl;have N:=c.out.x.cell 2 _ rfl;rcases hT with rfl|rfl|rfl
  ·have h:Hid (Calls prog 47 #[.pointer (some ⟨bp,0,none⟩),int i64 z] b λe w'=>e=.returned (qa9 2)/\∃k,Hid (k=W)/\Pl w bp br w.heap.size [int i64 8,int i64 z,int i64 n,int i64 xk,.string xd,.bool xg] X k (W) w'):=by
        obtain⟨V,Y,p,r,d,Z⟩:=c.out.d;exact(qm8 z b p G.out).mono λe w' ⟨o,hb⟩=>⟨o,W,rfl,c.out.later hb⟩
   go_wp2_with fail
   refine h.out.mono ?_;rintro e s ⟨rfl,W7,u,a⟩;rw[u.out]at a;have l:Hid (Pl w bp br w.heap.size [int i64 8,int i64 z,int i64 n,int i64 xk,.string xd,.bool xg] X (W) (W) s):=a;have v:=qa3 2 l.out.g;clear a h L M N
   go_wp2_with fail
   refine v.mono ?_;rintro e w8 ⟨rfl,y⟩
   go_wp2_with fail
   go_ret;exact(l.out.later y).acted (K.out.mono (Nat.le_succ j))
  ·have h:Hid (Calls prog 48 #[.pointer (some ⟨bp,0,none⟩),int i64 z] b λe w'=>e=.returned (qa9 2)/\∃k,Hid (k=W)/\Pl w bp br w.heap.size [int i64 9,int i64 z,int i64 n,int i64 xk,.string xd,.bool xg] X k (W) w'):=by
        obtain⟨V,Y,p,r,d,Z⟩:=c.out.d;exact(qry z b p G.out).mono λe w' ⟨o,hb⟩=>⟨o,W,rfl,c.out.later hb⟩
   go_wp2_with fail
   refine h.out.mono ?_;rintro e s ⟨rfl,W7,u,a⟩;rw[u.out]at a;have l:Hid (Pl w bp br w.heap.size [int i64 9,int i64 z,int i64 n,int i64 xk,.string xd,.bool xg] X (W) (W) s):=a;have v:=qa3 2 l.out.g;clear a h L M N
   go_wp2_with fail
   refine v.mono ?_;rintro e w8 ⟨rfl,y⟩
   go_wp2_with fail
   go_ret;exact(l.out.later y).acted (K.out.mono (Nat.le_succ j))
  ·have h:Hid (Calls prog 50 #[.pointer (some ⟨bp,0,none⟩),int i64 z] b λe w'=>e=.returned (qa9 2)/\∃k,Hid (k=W)/\Pl w bp br w.heap.size [int i64 10,int i64 z,int i64 n,int i64 xk,.string xd,.bool xg] X k (W) w'):=by
        obtain⟨V,Y,p,r,d,Z⟩:=c.out.d;exact(qqj z b p G.out).mono λe w' ⟨o,hb⟩=>⟨o,W,rfl,c.out.later hb⟩
   go_wp2_with fail
   refine h.out.mono ?_;rintro e s ⟨rfl,W7,u,a⟩;rw[u.out]at a;have l:Hid (Pl w bp br w.heap.size [int i64 10,int i64 z,int i64 n,int i64 xk,.string xd,.bool xg] X (W) (W) s):=a;have v:=qa3 2 l.out.g;clear a h L M N
   go_wp2_with fail
   refine v.mono ?_;rintro e w8 ⟨rfl,y⟩
   go_wp2_with fail
   go_ret;exact(l.out.later y).acted (K.out.mono (Nat.le_succ j))
theorem q0r (T:Int) (n xk:Int) (xd:ByteArray) (xg:Bool) (w:World) (D:Duo w bp br W W X) (hI:PlI j W) (Q:∃g,W.net[i]?=some g) (hT:T=8\/T=9\/T=10) (hz:X 0) (hg:G0 w):
 Calls prog 11 #[.pointer (some ⟨bp,0,none⟩),.pointer (some ⟨br,0,none⟩),.agg #[int i64 T,int i64 i,int i64 n,int i64 xk,.string xd,.bool xg]] w (qlx w bp br j X):=by
 have O:=Pl.first (AC:=[int i64 T,int i64 i,int i64 n,int i64 xk,.string xd,.bool xg]) D hz hg 36
 have hc:∃a0 k0 a4 k4,(w.alloc (.cells #[int i64 T,int i64 i,int i64 n,int i64 xk,.string xd,.bool xg] 36)).cell? ⟨br,0,none⟩=some (.slice a0 W.n k0)/\(w.alloc (.cells #[int i64 T,int i64 i,int i64 n,int i64 xk,.string xd,.bool xg] 36)).cell? ⟨br,4,none⟩=some (.slice a4 W.net.length k4):=by
  obtain⟨_,_,_,r,_⟩:=O.d;obtain⟨a0,k0,_,_,a4,k4,c0,_,c4,_⟩:=r.lens;exact⟨a0,k0,a4,k4,c0,c4⟩
 obtain⟨a0,k0,a4,k4,c0,c4⟩:=hc;have l0:=Later.cell c0;have l4:=Later.cell c4;have x0:=Later.cell (O.x.cell 0 _ rfl);have x1:=Later.cell (O.x.cell 1 _ rfl);have x2:=Later.cell (O.x.cell 2 _ rfl);have hne:=Later.one;have HP:Hid (Pl w bp br w.heap.size [int i64 T,int i64 i,int i64 n,int i64 xk,.string xd,.bool xg] X W W (w.alloc (.cells #[int i64 T,int i64 i,int i64 n,int i64 xk,.string xd,.bool xg] 36))):=O;have l:Hid (PlI j W):=hI;obtain⟨g,Q⟩:=Q;have B:Hid (W.net[i]?=some g):=Q;have hil:i<W.net.length:=(List.getElem?_eq_some_iff.1 Q).1;have q1:decide (0<=(i:Int))=true:=decide_eq_true (by omega);have q2:decide ((i:Int)<(W.net.length:Int))=true:=decide_eq_true (by omega);clear Q;clear D hI O hz hg c0 c4;go_enter func11,ntmps11
 go_wp2_with fail
 refine qaa (by kernel_rfl) (by kernel_rfl) ?_
 repeat (go_big_quiet_step (first|rfl|fail))
 refine wpQuiet_nil ?_;rintro w2 ⟨⟨_,hb2⟩,rfl⟩;have l0b:=λx:Later w2=>l0 ⟨x.val,qac hb2 x.below⟩;have l4b:=λx:Later w2=>l4 ⟨x.val,qac hb2 x.below⟩;have x1b:=λx:Later w2=>x1 ⟨x.val,qac hb2 x.below⟩
 go_wp2_with fail
 refine qaa (by kernel_rfl) (by kernel_rfl) ?_
 repeat (go_big_quiet_step (first|rfl|fail))
 refine wpQuiet_nil ?_;rintro y ⟨⟨_,hb3⟩,rfl⟩;have hb13:=qac hb2 hb3;have C:Hid (Pl w bp br w.heap.size [int i64 T,int i64 i,int i64 n,int i64 xk,.string xd,.bool xg] X W W y):=HP.out.later hb13;have l0c:=λx:Later y=>l0 ⟨x.val,qac hb13 x.below⟩;have x1c:=λx:Later y=>x1 ⟨x.val,qac hb13 x.below⟩;have x2c:=λx:Later y=>x2 ⟨x.val,qac hb13 x.below⟩;clear l0 l4 x0 x1 x2 l0b l4b x1b HP;have E:=C.out.x.cell 0 _ rfl;have F:=C.out.x.cell 1 _ rfl;have H:=C.out.x.cell 2 _ rfl;rcases hT with rfl|rfl|rfl
 ·have K:Hid (Calls prog 46 #[.pointer (some ⟨br,0,none⟩),int i64 i] y λe w'=>∃x:GrR,e=.returned (.agg (qc4 x).toArray)/\Hid (∃o L I,PW w' bp o W/\(∀k,o k->¬I k)/\(∀k,(X k\/k=w.heap.size)->k<w'.heap.size/\¬o k/\¬I k)/\Pl w bp br w.heap.size [int i64 8,int i64 i,int i64 n,int i64 xk,.string xd,.bool xg] X W (qb3 W i) w'/\RW w' br I (qb3 W i)/\x.g=g/\qat w' x.m.wa x.m.wc x.m.t.ws/\(∀s a0 a1 a2 a3,x.g.body=.ask s a0 a1 a2 a3->x.wa=none/\x.wc=0)/\L=I)):=by
   obtain⟨o,L,p,r,d,c⟩:=C.out.d;refine(qy7 y r l.out.wf.net B.out).mono λe w' ⟨x,h,hx,P⟩=>⟨x,h,?_⟩;have PL:=C.out.step (qhx p d c P.out.2.2);obtain⟨I,r2,s2,tt⟩:=P.out.2.2;refine⟨o,I,I,p.kept (λk e=>tt.block k (p.lt k e) (d k e)) tt.size,λk e1 e2=>?_,λk e=>?_,PL,r2,hx,P.out.1,P.out.2.1,rfl⟩
   ·rcases s2 k e2 with q|q
    ·exact d k e1 q
    ·have:=p.lt k e1;omega
   ·have:=c k e;refine⟨Nat.lt_of_lt_of_le this.1 tt.size,this.2.1,λq=>?_⟩;rcases s2 k q with q|q
    ·exact this.2.2 q
    ·omega
  go_wp2_with fail
  refine K.out.mono ?_;rintro e z ⟨x,rfl,H4⟩
  have CC:Hid (Calls prog 45 #[.pointer (some ⟨br,0,none⟩),.agg (qc4 x).toArray] z λe w'=>e=.returned (.tuple #[])/\∃b,Hid (qcc W i b)/\Pl w bp br w.heap.size [int i64 8,int i64 i,int i64 n,int i64 xk,.string xd,.bool xg] X W b w'):=by
   obtain⟨o,L,I,p,d,c,PL,r2,hx,h1,h2,_⟩:=H4.out;exact(quh (w:=z) (G:=I) l.out.wf l.out.nt B.out hx ⟨h1,h2,qgi.same r2 (Below.refl _ _)⟩).mono λe w' ⟨h,b,hD,J⟩=>⟨h,b,hD,PL.step (qhx p d c J)⟩
  clear E F H K
  go_wp2_with fail
  refine CC.out.mono ?_;rintro e w5 ⟨rfl,R,hD,h5⟩;have a:Hid (Pl w bp br w.heap.size [int i64 8,int i64 i,int i64 n,int i64 xk,.string xd,.bool xg] X W R w5):=h5;clear CC h5 H4;have E:=a.out.x.cell 0 _ rfl;have F:=a.out.x.cell 1 _ rfl;have H:=a.out.x.cell 2 _ rfl
  have M:Hid (Calls prog 47 #[.pointer (some ⟨bp,0,none⟩),int i64 i] w5 λe w'=>e=.returned (qa9 0)/\∃b,Hid (b=R)/\Pl w bp br w.heap.size [int i64 8,int i64 i,int i64 n,int i64 xk,.string xd,.bool xg] X b (R) w'):=by
   obtain⟨o,L,p,r,d,c⟩:=a.out.d;exact(qog w5 p l.out.wf B.out).mono λe w' ⟨h,b,hD',J⟩=>⟨h,b,hD'.out.det hD.out,a.out.step (qcx r d c J)⟩
  go_wp2_with fail
  refine M.out.mono ?_;rintro e S ⟨rfl,W7,U,u⟩;rw[U.out]at u;have N:Hid (Pl w bp br w.heap.size [int i64 8,int i64 i,int i64 n,int i64 xk,.string xd,.bool xg] X (R) (R) S):=u;have V:=qa3 0 N.out.g;clear u M E F H
  go_wp2_with fail
  refine V.mono ?_;rintro e w8 ⟨rfl,Y⟩
  go_wp2_with fail
  go_ret;exact(N.out.later Y).acted ((l.out.deliver hD.out).mono (Nat.le_succ j))
 ·have K:Hid (Calls prog 46 #[.pointer (some ⟨br,0,none⟩),int i64 i] y λe w'=>∃v,e=.returned v/\Pl w bp br w.heap.size [int i64 9,int i64 i,int i64 n,int i64 xk,.string xd,.bool xg] X W (qb3 W i) w'):=by
   obtain⟨o,L,p,r,d,c⟩:=C.out.d;exact(qy7 y r l.out.wf.net B.out).mono λe w' ⟨x,h,_,P⟩=>⟨_,h,C.out.step (qhx p d c P.out.2.2)⟩
  go_wp2_with fail
  refine K.out.mono ?_;rintro e z ⟨v4,rfl,Z⟩;have a:Hid (Pl w bp br w.heap.size [int i64 9,int i64 i,int i64 n,int i64 xk,.string xd,.bool xg] X W (qb3 W i) z):=Z;clear E F H K Z;have E:=a.out.x.cell 0 _ rfl;have F:=a.out.x.cell 1 _ rfl;have H:=a.out.x.cell 2 _ rfl
  have M:Hid (Calls prog 48 #[.pointer (some ⟨bp,0,none⟩),int i64 i] z λe w'=>e=.returned (qa9 0)/\∃b,Hid (b=qb3 W i)/\Pl w bp br w.heap.size [int i64 9,int i64 i,int i64 n,int i64 xk,.string xd,.bool xg] X b (qb3 W i) w'):=by
   obtain⟨o,L,p,r,d,c⟩:=a.out.d;exact(q30 z p l.out.wf.net B.out).mono λe w' ⟨h,J⟩=>⟨h,_,rfl,a.out.step (qcx r d c J)⟩
  go_wp2_with fail
  refine M.out.mono ?_;rintro e S ⟨rfl,W7,U,u⟩;rw[U.out]at u;have N:Hid (Pl w bp br w.heap.size [int i64 9,int i64 i,int i64 n,int i64 xk,.string xd,.bool xg] X (qb3 W i) (qb3 W i) S):=u;have V:=qa3 0 N.out.g;clear u M E F H
  go_wp2_with fail
  refine V.mono ?_;rintro e w8 ⟨rfl,Y⟩
  go_wp2_with fail
  go_ret;exact(N.out.later Y).acted ((l.out.drop i).mono (Nat.le_succ j))
 ·have K:Hid (Calls prog 49 #[.pointer (some ⟨br,0,none⟩),int i64 i] y λe w'=>e=.returned (.tuple #[])/\Pl w bp br w.heap.size [int i64 10,int i64 i,int i64 n,int i64 xk,.string xd,.bool xg] X W (qcq W g) w'):=by
   obtain⟨o,L,p,r,d,c⟩:=C.out.d;exact(q07 y r B.out).mono λe w' ⟨h,J⟩=>⟨h,C.out.step (qhx p d c J)⟩
  go_wp2_with fail
  refine K.out.mono ?_;rintro e z ⟨rfl,Z⟩;have a:Hid (Pl w bp br w.heap.size [int i64 10,int i64 i,int i64 n,int i64 xk,.string xd,.bool xg] X W (qcq W g) z):=Z;clear E F H K Z;have E:=a.out.x.cell 0 _ rfl;have F:=a.out.x.cell 1 _ rfl;have H:=a.out.x.cell 2 _ rfl
  have M:Hid (Calls prog 50 #[.pointer (some ⟨bp,0,none⟩),int i64 i] z λe w'=>e=.returned (qa9 0)/\∃b,Hid (b=qcq W g)/\Pl w bp br w.heap.size [int i64 10,int i64 i,int i64 n,int i64 xk,.string xd,.bool xg] X b (qcq W g) w'):=by
   obtain⟨o,L,p,r,d,c⟩:=a.out.d;exact(q1a z p B.out).mono λe w' ⟨h,J⟩=>⟨h,_,rfl,a.out.step (qcx r d c J)⟩
  go_wp2_with fail
  refine M.out.mono ?_;rintro e S ⟨rfl,W7,U,u⟩;rw[U.out]at u;have N:Hid (Pl w bp br w.heap.size [int i64 10,int i64 i,int i64 n,int i64 xk,.string xd,.bool xg] X (qcq W g) (qcq W g) S):=u;have V:=qa3 0 N.out.g;clear u M E F H
  go_wp2_with fail
  refine V.mono ?_;rintro e w8 ⟨rfl,Y⟩
  go_wp2_with fail
  go_ret;exact(N.out.later Y).acted ((l.out.send (l.out.wf.to g (List.mem_of_getElem? B.out)) (l.out.nt g (List.mem_of_getElem? B.out))).mono (Nat.le_succ j))
end
end
section
open Tryz Go.Value Go.IntKind
section
variable {bp br j i:Nat} {W:WoS} {X:Nat->Prop}
theorem qzk (T:Int) (n xk:Int) (xd:ByteArray) (xg:Bool) (w:World) (D:Duo w bp br W W X) (hI:PlI j W) (hk:i<W.n) (hT:T=6\/T=7\/T=11) (hz:X 0) (hg:G0 w):
 Calls prog 11 #[.pointer (some ⟨bp,0,none⟩),.pointer (some ⟨br,0,none⟩),.agg #[int i64 T,int i64 i,int i64 n,int i64 xk,.string xd,.bool xg]] w (qlx w bp br j X):=by
 have U:=Pl.first (AC:=[int i64 T,int i64 i,int i64 n,int i64 xk,.string xd,.bool xg]) D hz hg 36
 have hc:∃a0 k0 a4 k4,(w.alloc (.cells #[int i64 T,int i64 i,int i64 n,int i64 xk,.string xd,.bool xg] 36)).cell? ⟨br,0,none⟩=some (.slice a0 W.n k0)/\(w.alloc (.cells #[int i64 T,int i64 i,int i64 n,int i64 xk,.string xd,.bool xg] 36)).cell? ⟨br,4,none⟩=some (.slice a4 W.net.length k4):=by
  obtain⟨_,_,_,r,_⟩:=U.d;obtain⟨a0,k0,_,_,a4,k4,c0,_,c4,_⟩:=r.lens;exact⟨a0,k0,a4,k4,c0,c4⟩
 obtain⟨a0,k0,a4,k4,c0,c4⟩:=hc;have l0:=Later.cell c0;have l4:=Later.cell c4;have x0:=Later.cell (U.x.cell 0 _ rfl);have x1:=Later.cell (U.x.cell 1 _ rfl);have x2:=Later.cell (U.x.cell 2 _ rfl);have hne:=Later.one;have HP:Hid _:=U;have E:Hid _:=hI;have l:Hid _:=hk;have q1:decide (0<=(i:Int))=true:=decide_eq_true (by omega);have q2:decide ((i:Int)<(W.n:Int))=true:=decide_eq_true (by omega)
 have q3:(i:Int)<(W.n:Int):=by omega
 clear hk;clear D hI U hz hg c0 c4;go_enter func11,ntmps11
 go_wp2_with fail
 refine qaa (by kernel_rfl) (by kernel_rfl) ?_
 repeat (go_big_quiet_step (first|rfl|fail))
 refine wpQuiet_nil ?_;rintro w2 ⟨⟨_,hb2⟩,rfl⟩;have l0b:=λx:Later w2=>l0 ⟨x.val,qac hb2 x.below⟩;have l4b:=λx:Later w2=>l4 ⟨x.val,qac hb2 x.below⟩;have x1b:=λx:Later w2=>x1 ⟨x.val,qac hb2 x.below⟩
 go_wp2_with fail
 refine qaa (by kernel_rfl) (by kernel_rfl) ?_
 repeat (go_big_quiet_step (first|rfl|fail))
 refine wpQuiet_nil ?_;rintro H ⟨⟨_,hb3⟩,rfl⟩;have hb13:=qac hb2 hb3;have I:Hid _:=HP.out.later hb13;have l0c:=λx:Later H=>l0 ⟨x.val,qac hb13 x.below⟩;have x1c:=λx:Later H=>x1 ⟨x.val,qac hb13 x.below⟩;have x2c:=λx:Later H=>x2 ⟨x.val,qac hb13 x.below⟩;clear l0 l4 x0 x1 x2 l0b l4b x1b HP;have b:=I.out.x.cell 0 _ rfl;have c:=I.out.x.cell 1 _ rfl;have h:=I.out.x.cell 2 _ rfl;rcases hT with rfl|rfl|rfl
 ·by_cases F:0<=n/\n<=1099511627776
  ·have B:Hid _:=F;have q4:0<=n:=F.1;have q5:n<=1099511627776:=F.2;clear F;obtain⟨Q,M,Gs,V⟩:=I.out.d.at;have A4:Hid _:=V;obtain⟨av,avc,hav,ar⟩:=qan V.r.wr
   obtain⟨ag,rfl,hag,hac⟩:∃g,av=some ⟨g,0,none⟩/\g<H.heap.size/\∀j u,(qf9 W.wall W.n)[j]?=some u->H.cell? ⟨g,j,none⟩=some u:=by
        rcases ar.held with h0|h0
        ·have:=l.out;omega
        ·exact h0
   have d3:=V.r.box.cell 1 _ rfl;rw[hav]at d3;have d4:=hac _ _ (qkx l.out);have o4:=V.r.wr;rw[hav]at o4;have d5:=o4.frozenAt i;have hal:=ar.len;have bl:=V.r.box.lt;have hl:=E.out.wl i l.out;obtain⟨wl,hwl⟩:∃wl,W.wall i=wl:=⟨_,rfl⟩;rw[hwl]at d4 hl
   have hwz:wrap64 (wl+n)=wl+n:=by have:=B.out;unfold wrap64;omega
   have HE:Hid (qlr W i n={W with wall:=qb2 W.wall i (qsu (wl+n))}):=by show _=_;unfold qlr;rw[hwl]
   have MV:Hid (∀x,x=qsu (wl+n)->Duo (H.setCell ⟨ag,i,none⟩ (int i64 x)) bp br W (qlr W i n) (λq=>X q\/q=w.heap.size)/\qby (λq=>X q\/q=w.heap.size) H (H.setCell ⟨ag,i,none⟩ (int i64 x))):=λx hx=>by
        subst hx;have s:=A4.out.r.setWall hav l.out (qsu (wl+n));refine A4.out.ref ?_;rw[HE.out]
        have gf:qav br M ag:=by unfold qav qd5;rw[hav];simp[Value.ownBlock]
        exact⟨_,⟨M,Gs,s.1,λ_=>Iff.rfl⟩,λq e=>.inl e,⟨s.2.os,s.2.tape,s.2.output,s.2.size,λq hq F=>s.2.block q hq (λe=>F (.inl (by rw[e];exact gf)))⟩⟩
   clear hac ar hav o4 V hwl;by_cases hm:wl+n<=1099511627776
   ·have HX:Hid (wl+n=qsu (wl+n)):=(if_pos hm).symm
    go_wp2_with fail
    go_region
    all_goals
     have z:Hid _:=(I.out.step (MV.out _ HX.out)).later (Below.refl _ _).drew;clear b c h d3 d4 d5;have b:=z.out.x.cell 0 _ rfl;have c:=z.out.x.cell 1 _ rfl;have h:=z.out.x.cell 2 _ rfl;obtain⟨O,hw5⟩:∃O,(H.setCell ⟨ag,i,none⟩ (int i64 (wl+n))).drew=O:=⟨_,rfl⟩;rw[hw5]at z b c h ⊢;clear hw5
     have m:Hid (Calls prog 42 #[.pointer (some ⟨bp,0,none⟩),int i64 i,int i64 n] O λe w'=>e=.returned (qa9 0)/\∃v,Hid (v=qlr W i n)/\Pl w bp br w.heap.size [int i64 6,int i64 i,int i64 n,int i64 xk,.string xd,.bool xg] X v (qlr W i n) w'):=by
      obtain⟨Q,R,p,r,d,G⟩:=z.out.d;exact(qxd O p l.out B.out.1 B.out.2 (E.out.wl i l.out).1 (E.out.wl i l.out).2).mono λe w' ⟨C,J⟩=>⟨C,_,rfl,z.out.step (qcx r d G J)⟩
     go_wp2_with fail
     refine m.out.mono ?_;rintro e Y ⟨rfl,Z,K,a⟩;rw[K.out]at a;have y:Hid _:=a;have L:=qa3 0 y.out.g;clear a m b c h
     go_wp2_with fail
     refine L.mono ?_;rintro e w8 ⟨rfl,N⟩
     go_wp2_with fail
     go_ret;exact(y.out.later N).acted ((E.out.goes B.out.1 l.out).mono (Nat.le_succ j))
   ·have HX:Hid (1099511627776=qsu (wl+n)):=(if_neg hm).symm
    go_wp2_with fail
    go_region
    all_goals
     have z:Hid _:=(I.out.step (MV.out _ HX.out)).later (Below.refl _ _).drew;clear b c h d3 d4 d5;have b:=z.out.x.cell 0 _ rfl;have c:=z.out.x.cell 1 _ rfl;have h:=z.out.x.cell 2 _ rfl;obtain⟨O,hw5⟩:∃O,(H.setCell ⟨ag,i,none⟩ (int i64 (1099511627776))).drew=O:=⟨_,rfl⟩;rw[hw5]at z b c h ⊢;clear hw5
     have m:Hid (Calls prog 42 #[.pointer (some ⟨bp,0,none⟩),int i64 i,int i64 n] O λe w'=>e=.returned (qa9 0)/\∃v,Hid (v=qlr W i n)/\Pl w bp br w.heap.size [int i64 6,int i64 i,int i64 n,int i64 xk,.string xd,.bool xg] X v (qlr W i n) w'):=by
      obtain⟨Q,R,p,r,d,G⟩:=z.out.d;exact(qxd O p l.out B.out.1 B.out.2 (E.out.wl i l.out).1 (E.out.wl i l.out).2).mono λe w' ⟨C,J⟩=>⟨C,_,rfl,z.out.step (qcx r d G J)⟩
     go_wp2_with fail
     refine m.out.mono ?_;rintro e Y ⟨rfl,Z,K,a⟩;rw[K.out]at a;have y:Hid _:=a;have L:=qa3 0 y.out.g;clear a m b c h
     go_wp2_with fail
     refine L.mono ?_;rintro e w8 ⟨rfl,N⟩
     go_wp2_with fail
     go_ret;exact(y.out.later N).acted ((E.out.goes B.out.1 l.out).mono (Nat.le_succ j))
  ·have B:Hid _:=F
   have q:(¬0<=n)\/(0<=n/\¬n<=1099511627776):=by omega
   clear F;rcases q with q4|⟨q4,q5⟩
   all_goals
        have m:Hid (Calls prog 42 #[.pointer (some ⟨bp,0,none⟩),int i64 i,int i64 n] H λe w'=>e=.returned (qa9 2)/\∃v,Hid (v=W)/\Pl w bp br w.heap.size [int i64 6,int i64 i,int i64 n,int i64 xk,.string xd,.bool xg] X v (W) w'):=by
         obtain⟨Q,R,p,r,d,G⟩:=I.out.d;exact(qsn n H p l.out B.out).mono λe w' ⟨C,hb⟩=>⟨C,W,rfl,I.out.later hb⟩
        go_wp2_with fail
        refine m.out.mono ?_;rintro e Y ⟨rfl,Z,K,a⟩;rw[K.out]at a;have y:Hid _:=a;have L:=qa3 2 y.out.g;clear a m b c h
        go_wp2_with fail
        refine L.mono ?_;rintro e w8 ⟨rfl,N⟩
        go_wp2_with fail
        go_ret;exact(y.out.later N).acted (E.out.mono (Nat.le_succ j))
 ·by_cases F:0<=n/\n<(W.n:Int)
  ·by_cases hxn:(i:Int)=n
   ·subst hxn
    go_wp2_with fail
    refine qaa (by kernel_rfl) (by kernel_rfl) ?_
    repeat (go_big_quiet_step (first|rfl|fail))
    refine wpQuiet_nil ?_;rintro P ⟨⟨_,hb4⟩,rfl⟩;have k:Hid _:=I.out.later hb4;clear b c h l0c x1c x2c;have b:=k.out.x.cell 0 _ rfl;have c:=k.out.x.cell 1 _ rfl;have h:=k.out.x.cell 2 _ rfl
    have m:Hid (Calls prog 44 #[.pointer (some ⟨bp,0,none⟩),int i64 i,int i64 i] P λe w'=>e=.returned (qa9 2)/\∃v,Hid (v=W)/\Pl w bp br w.heap.size [int i64 7,int i64 i,int i64 i,int i64 xk,.string xd,.bool xg] X v (W) w'):=by
     obtain⟨Q,R,p,r,d,G⟩:=k.out.d;exact(qr7 P p l.out).mono λe w' ⟨C,J⟩=>⟨C,W,rfl,k.out.step (qcx r d G J)⟩
    go_wp2_with fail
    refine m.out.mono ?_;rintro e Y ⟨rfl,Z,K,a⟩;rw[K.out]at a;have y:Hid _:=a;have L:=qa3 2 y.out.g;clear a m b c h
    go_wp2_with fail
    refine L.mono ?_;rintro e w8 ⟨rfl,N⟩
    go_wp2_with fail
    go_ret;exact(y.out.later N).acted (E.out.mono (Nat.le_succ j))
   ·have B:Hid _:=F;have q4:decide (0<=n)=true:=decide_eq_true F.1;have q5:decide (n<(W.n:Int))=true:=decide_eq_true F.2;have HE:Hid _:=hxn;have q6:decide ((i:Int)=n)=false:=decide_eq_false hxn;clear F
    go_wp2_with fail
    refine qaa (by kernel_rfl) (by kernel_rfl) ?_
    repeat (go_big_quiet_step (first|rfl|fail))
    refine wpQuiet_nil ?_;rintro P ⟨⟨_,hb4⟩,rfl⟩;have k:Hid _:=I.out.later hb4;clear b c h l0c x1c x2c;have b:=k.out.x.cell 0 _ rfl;have c:=k.out.x.cell 1 _ rfl;have h:=k.out.x.cell 2 _ rfl
    have CR:Hid (Calls prog 43 #[.pointer (some ⟨br,0,none⟩),int i64 i,int i64 n] P λe w'=>e=.returned (.tuple #[])/\Pl w bp br w.heap.size [int i64 7,int i64 i,int i64 n,int i64 xk,.string xd,.bool xg] X W (quu W i n.toNat) w'):=by
     obtain⟨Q,R,p,r,d,G⟩:=k.out.d;have:=q20 P r (i:=i) (o:=n.toNat) l.out;rw[show ((n.toNat:Nat):Int)=n by have:=B.out;omega]at this;exact this.mono λe w' ⟨C,J⟩=>⟨C,k.out.step (qhx p d G J)⟩
    go_wp2_with fail
    refine CR.out.mono ?_;rintro e O ⟨rfl,h5⟩;have z:Hid _:=h5;clear b c h CR h5;have b:=z.out.x.cell 0 _ rfl;have c:=z.out.x.cell 1 _ rfl;have h:=z.out.x.cell 2 _ rfl
    have m:Hid (Calls prog 44 #[.pointer (some ⟨bp,0,none⟩),int i64 i,int i64 n] O λe w'=>e=.returned (qa9 0)/\∃v,Hid (v=quu W i n.toNat)/\Pl w bp br w.heap.size [int i64 7,int i64 i,int i64 n,int i64 xk,.string xd,.bool xg] X v (quu W i n.toNat) w'):=by
     obtain⟨Q,R,p,r,d,G⟩:=z.out.d
     exact by
      have:=q22 O p E.out.wf (i:=i) (o:=n.toNat) l.out (by have:=B.out;omega) (by have:=HE.out;have:=B.out;omega);rw[show ((n.toNat:Nat):Int)=n by have:=B.out;omega]at this;exact this.mono λe w' ⟨C,J⟩=>⟨C,_,rfl,z.out.step (qcx r d G J)⟩
    go_wp2_with fail
    refine m.out.mono ?_;rintro e Y ⟨rfl,Z,K,a⟩;rw[K.out]at a;have y:Hid _:=a;have L:=qa3 0 y.out.g;clear a m b c h
    go_wp2_with fail
    refine L.mono ?_;rintro e w8 ⟨rfl,N⟩
    go_wp2_with fail
    go_ret;exact(y.out.later N).acted ((E.out.send (g:=⟨n.toNat,.ask i (W.S i).a0 (W.S i).a1 (W.S i).a2 (W.S i).a3⟩) (by show n.toNat<W.n;have:=B.out;omega) (by show 0<=(i:Int)/\(i:Int)<(W.n:Int);have:=l.out;omega)).mono (Nat.le_succ j))
  ·have B:Hid _:=F
   have q:decide (0<=n)=false\/(decide (0<=n)=true/\decide (n<(W.n:Int))=false):=by
        by_cases q:0<=n
        ·exact .inr ⟨decide_eq_true q,decide_eq_false (by omega)⟩
        ·exact .inl (decide_eq_false q)
   clear F;rcases q with q4|⟨q4,q5⟩
   all_goals
        go_wp2_with fail
        refine qaa (by kernel_rfl) (by kernel_rfl) ?_
        repeat (go_big_quiet_step (first|rfl|fail))
        refine wpQuiet_nil ?_;rintro P ⟨⟨_,hb4⟩,rfl⟩;have k:Hid _:=I.out.later hb4;clear b c h l0c x1c x2c;have b:=k.out.x.cell 0 _ rfl;have c:=k.out.x.cell 1 _ rfl;have h:=k.out.x.cell 2 _ rfl
        have m:Hid (Calls prog 44 #[.pointer (some ⟨bp,0,none⟩),int i64 i,int i64 n] P λe w'=>e=.returned (qa9 2)/\∃v,Hid (v=W)/\Pl w bp br w.heap.size [int i64 7,int i64 i,int i64 n,int i64 xk,.string xd,.bool xg] X v (W) w'):=by
         obtain⟨Q,R,p,r,d,G⟩:=k.out.d;exact(qv3 n P p l.out B.out).mono λe w' ⟨C,hb⟩=>⟨C,W,rfl,k.out.later hb⟩
        go_wp2_with fail
        refine m.out.mono ?_;rintro e Y ⟨rfl,Z,K,a⟩;rw[K.out]at a;have y:Hid _:=a;have L:=qa3 2 y.out.g;clear a m b c h
        go_wp2_with fail
        refine L.mono ?_;rintro e w8 ⟨rfl,N⟩
        go_wp2_with fail
        go_ret;exact(y.out.later N).acted (E.out.mono (Nat.le_succ j))
 ·have CR:Hid (Calls prog 51 #[.pointer (some ⟨br,0,none⟩),int i64 i] H λe w'=>e=.returned (.tuple #[])/\Pl w bp br w.heap.size [int i64 11,int i64 i,int i64 n,int i64 xk,.string xd,.bool xg] X W (qmk W i) w'):=by
   obtain⟨Q,R,p,r,d,G⟩:=I.out.d;exact(q2i H r E.out.wf l.out).mono λe w' ⟨C,J⟩=>⟨C,I.out.step (qhx p d G J)⟩
  go_wp2_with fail
  refine CR.out.mono ?_;rintro e P ⟨rfl,h4⟩;have k:Hid _:=h4;clear b c h CR h4;have b:=k.out.x.cell 0 _ rfl;have c:=k.out.x.cell 1 _ rfl;have h:=k.out.x.cell 2 _ rfl
  have m:Hid (Calls prog 52 #[.pointer (some ⟨bp,0,none⟩),int i64 i] P λe w'=>e=.returned (qa9 0)/\∃v,Hid (v=qmk W i)/\Pl w bp br w.heap.size [int i64 11,int i64 i,int i64 n,int i64 xk,.string xd,.bool xg] X v (qmk W i) w'):=by
   obtain⟨Q,R,p,r,d,G⟩:=k.out.d;exact(q15 P p E.out.wf l.out).mono λe w' ⟨C,J⟩=>⟨C,_,rfl,k.out.step (qcx r d G J)⟩
  go_wp2_with fail
  refine m.out.mono ?_;rintro e Y ⟨rfl,Z,K,a⟩;rw[K.out]at a;have y:Hid _:=a;have L:=qa3 0 y.out.g;clear a m b c h
  go_wp2_with fail
  refine L.mono ?_;rintro e w8 ⟨rfl,N⟩
  go_wp2_with fail
  go_ret;exact(y.out.later N).acted ((E.out.sweep l.out).mono (Nat.le_succ j))
theorem qxs (T z:Int) (n xk:Int) (xd:ByteArray) (xg:Bool) (w:World) (D:Duo w bp br W W X) (H:PlI j W) (m:T=12\/12<T) (I:X 0) (J:G0 w):
 Calls prog 11 #[.pointer (some ⟨bp,0,none⟩),.pointer (some ⟨br,0,none⟩),.agg #[int i64 T,int i64 z,int i64 n,int i64 xk,.string xd,.bool xg]] w (qlx w bp br j X):=by
 have c:=Pl.first (AC:=[int i64 T,int i64 z,int i64 n,int i64 xk,.string xd,.bool xg]) D I J 36
 have R:∃a0 o s u,(w.alloc (.cells #[int i64 T,int i64 z,int i64 n,int i64 xk,.string xd,.bool xg] 36)).cell? ⟨br,0,none⟩=some (.slice a0 W.n o)/\(w.alloc (.cells #[int i64 T,int i64 z,int i64 n,int i64 xk,.string xd,.bool xg] 36)).cell? ⟨br,4,none⟩=some (.slice s W.net.length u):=by
  obtain⟨_,_,_,r,_⟩:=c.d;obtain⟨a0,o,_,_,s,u,c0,_,v,_⟩:=r.lens;exact⟨a0,o,s,u,c0,v⟩
 obtain⟨a0,o,s,u,c0,v⟩:=R;have C:=Later.cell c0;have K:=Later.cell v;have x0:=Later.cell (c.x.cell 0 _ rfl);have x1:=Later.cell (c.x.cell 1 _ rfl);have x2:=Later.cell (c.x.cell 2 _ rfl);have hne:=Later.one;have L:Hid _:=c;have k:Hid _:=H
 have q:decide (0<=z)=false\/decide (0<=z)=true:=by cases decide (0<=z)<;>simp
 clear D H c I J c0 v;rcases q with S|S
 all_goals
  go_enter func11,ntmps11
  go_wp2_with fail
  refine qaa (by kernel_rfl) (by kernel_rfl) ?_
  repeat (go_big_quiet_step (first|rfl|fail))
  refine wpQuiet_nil ?_;rintro w2 ⟨⟨_,y⟩,rfl⟩;have U:=λx:Later w2=>C ⟨x.val,qac y x.below⟩;have V:=λx:Later w2=>K ⟨x.val,qac y x.below⟩;have Y:=λx:Later w2=>x1 ⟨x.val,qac y x.below⟩
  go_wp2_with fail
  refine qaa (by kernel_rfl) (by kernel_rfl) ?_
  repeat (go_big_quiet_step (first|rfl|fail))
  refine wpQuiet_nil ?_;rintro l ⟨⟨_,Z⟩,rfl⟩;have B:=qac y Z;have g:Hid _:=L.out.later B;have l0c:=λx:Later l=>C ⟨x.val,qac B x.below⟩;have x1c:=λx:Later l=>x1 ⟨x.val,qac B x.below⟩;have x2c:=λx:Later l=>x2 ⟨x.val,qac B x.below⟩;clear C K x0 x1 x2 U V Y L;have z0:=g.out.x.cell 0 _ rfl;have z1:=g.out.x.cell 1 _ rfl;have z2:=g.out.x.cell 2 _ rfl;rcases m with rfl|m
  ·have M:Hid (Calls prog 53 #[.pointer (some ⟨br,0,none⟩)] l λe w'=>e=.returned (.tuple #[])/\∃b,Hid (qk3 W b/\WfW b/\qjj b)/\Pl w bp br w.heap.size [int i64 12,int i64 z,int i64 n,int i64 xk,.string xd,.bool xg] X W b w'):=by
        obtain⟨Gp,Gr,p,r,d,E⟩:=g.out.d;exact(q3r l r k.out.wf k.out.nt).mono λe w' ⟨F,b,h,G⟩=>⟨F,b,h,g.out.step (qhx p d E G)⟩
   go_wp2_with fail
   refine M.out.mono ?_;rintro e N ⟨rfl,O,h,P⟩;have Q:Hid _:=P
   have CP:Hid (Calls prog 23 #[.pointer (some ⟨bp,0,none⟩)] N λe w'=>e=.returned (.tuple #[])/\Pl w bp br w.heap.size [int i64 12,int i64 z,int i64 n,int i64 xk,.string xd,.bool xg] X O O w'):=by
        obtain⟨Gp,Gr,p,r,d,E⟩:=Q.out.d
        exact(q4d N p k.out.wf).mono λe w' ⟨F,b,hC',G⟩=>⟨F,by
         have e:=hC'.out.1.det h.out.1;subst e
         exact Q.out.step (qcx r d E G)⟩
   clear z0 z1 z2 M P
   go_wp2_with fail
   refine CP.out.mono ?_;rintro e w7 ⟨rfl,h7⟩
   go_wp2_with fail
   go_ret;exact h7.acted ((k.out.keep h.out.2.1 h.out.2.2 h.out.1.keep).mono (Nat.le_succ j))
  ·have a:Hid _:=m;clear m;have e6:decide (T=6)=false:=decide_eq_false (by have:=a.out;omega);have e7:decide (T=7)=false:=decide_eq_false (by have:=a.out;omega);have e8:decide (T=8)=false:=decide_eq_false (by have:=a.out;omega);have e9:decide (T=9)=false:=decide_eq_false (by have:=a.out;omega);have e10:decide (T=10)=false:=decide_eq_false (by have:=a.out;omega);have e11:decide (T=11)=false:=decide_eq_false (by have:=a.out;omega);have e12:decide (T=12)=false:=decide_eq_false (by have:=a.out;omega)
   have n6:¬T=6:=by have:=a.out;omega
   have n7:¬T=7:=by have:=a.out;omega
   have n8:¬T=8:=by have:=a.out;omega
   have n9:¬T=9:=by have:=a.out;omega
   have n10:¬T=10:=by have:=a.out;omega
   have n11:¬T=11:=by have:=a.out;omega
   have n12:¬T=12:=by have:=a.out;omega
   go_wp2_with fail
   go_ret;exact g.out.acted (k.out.mono (Nat.le_succ j))
end
end
section
section
variable {bp br j:Nat} {W:WoS} {X:Nat->Prop}
theorem q0m (T z n xk:Int) (xd:ByteArray) (xg:Bool) (o:0<=T/\T<=5) (h:(Lit.int .i64 n).wf=true) (w:World) (D:Duo w bp br W W X) (b:PlI j W) (i:j<=120) (d:X 0) (e:G0 w):
 Calls Tryz.prog 10 #[.pointer (some ⟨bp,0,none⟩),.pointer (some ⟨br,0,none⟩),.agg #[.int .i64 T,.int .i64 z,.int .i64 n,.int .i64 xk,.string xd,.bool xg]] w (qlx w bp br j X):=by
 have g:T=0\/T=1\/T=2\/T=3\/T=4\/T=5:=by omega
 by_cases m:0<=z/\z<(W.c:Int)
 ·obtain⟨k,rfl⟩:∃k:Nat,z=k:=⟨z.toNat,by omega⟩;exact q2t T n xk xd xg w D b (by omega) g h i d e
 ·exact qu2 T z n xk xd xg w D b m g d e
theorem q0p (T z n xk:Int) (xd:ByteArray) (xg:Bool) (k:5<T) (w:World) (D:Duo w bp br W W X) (b:PlI j W) (c:X 0) (d:G0 w):
 Calls Tryz.prog 11 #[.pointer (some ⟨bp,0,none⟩),.pointer (some ⟨br,0,none⟩),.agg #[.int .i64 T,.int .i64 z,.int .i64 n,.int .i64 xk,.string xd,.bool xg]] w (qlx w bp br j X):=by
 by_cases h:T=6\/T=7\/T=11
 ·by_cases e:0<=z/\z<(W.n:Int)
  ·obtain⟨i,rfl⟩:∃i:Nat,z=i:=⟨z.toNat,by omega⟩;exact qzk T n xk xd xg w D b (by omega) h c d
  ·exact qr0 T z n xk xd xg w D b e h c d
 ·by_cases g:T=8\/T=9\/T=10
  ·by_cases e:0<=z/\z<(W.net.length:Int)
   ·obtain⟨i,rfl⟩:∃i:Nat,z=i:=⟨z.toNat,by omega⟩;exact q0r T n xk xd xg w D b ⟨_,List.getElem?_eq_getElem (by omega)⟩ g c d
   ·exact qu9 T z n xk xd xg w D b e g c d
  ·exact qxs T z n xk xd xg w D b (by omega) c d
end
structure q1k where
 what:Int
 k:Int
 n:Int
 xk:Int
 xd:ByteArray
 xg:Bool
def q1r (a:q1k):List Value:=[.int .i64 a.what,.int .i64 a.k,.int .i64 a.n,.int .i64 a.xk,.string a.xd,.bool a.xg]
structure qlv (w:World) (a:Option Addr) (cap:Nat) (l:List q1k):Prop where
 len:l.length<=cap
 cap:cap<=9223372036854775807
 held:l=[]\/∃b off,a=some ⟨b,off,none⟩/\∀i x r u,l[i]?=some x->(q1r x)[r]?=some u->w.cell? ⟨b,off+(i*6+r),none⟩=some u
 wf:∀x∈l,(Lit.int .i64 x.n).wf=true
variable {w:World} {a:Option Addr} {l:List q1k}
theorem qlv.later {w':World} {cap:Nat} (hb:Below w.heap.size w w') (h:qlv w a cap l):qlv w' a cap l:=
 ⟨h.len,h.cap,h.held.elim .inl λ⟨b,d,e,c⟩=>.inr ⟨b,d,e,λi m r u f g=>cell_later hb (c i m r u f g)⟩,h.wf⟩
theorem qlv.at {cap:Nat} (h:qlv w a cap l) {i:Nat} (n:i<l.length):∃f g what m k xk xd xg,a=some ⟨f,g,none⟩/\l[i]?=some ⟨what,m,k,xk,xd,xg⟩/\(Lit.int .i64 k).wf=true/\w.cell? ⟨f,g+i*6,none⟩=some (.int .i64 what)/\w.cell? ⟨f,g+i*6+1,none⟩=some (.int .i64 m)/\w.cell? ⟨f,g+i*6+2,none⟩=some (.int .i64 k)/\w.cell? ⟨f,g+i*6+3,none⟩=some (.int .i64 xk)/\w.cell? ⟨f,g+i*6+4,none⟩=some (.string xd)/\w.cell? ⟨f,g+i*6+5,none⟩=some (.bool xg):=by
 rcases h.held with o|⟨b,p,e,c⟩
 ·rw[o]at n;simp at n
 ·obtain⟨⟨what,m,k,xk,xd,xg⟩,d⟩:∃x,l[i]?=some x:=⟨_,List.getElem?_eq_getElem n⟩;exact⟨b,p,what,m,k,xk,xd,xg,e,d,h.wf _ (List.mem_of_getElem? d),c i _ 0 _ d rfl,c i _ 1 _ d rfl,c i _ 2 _ d rfl,c i _ 3 _ d rfl,c i _ 4 _ d rfl,c i _ 5 _ d rfl⟩
end
section
open Go.ChangeShapes Go.WideShapes Go.ChangeAt Go.Joins Go.Deep
theorem qrn:Tryz.prog.cellsOf 36=6:=by kernel_rfl
variable {α:Type} {l:List α}
theorem q46 (h:l.length=6):∃a b c d e f,l=[a,b,c,d,e,f]:=by
 match l,h with
 |[a,b,c,d,e,f],_=>exact⟨a,b,c,d,e,f,rfl⟩
theorem q5o (h:l.length=4):∃a b c d,l=[a,b,c,d]:=by
 match l,h with
 |[a,b,c,d],_=>exact⟨a,b,c,d,rfl⟩
section
variable {H:Type} {enc:TypeId×Value->H} {W:World}
theorem qww {j:Nat} {d:List Value} {x:DataW H×List MemPlace} (h:DataW.trod enc Tryz.prog W 0 (λ_=>true) true j 36 d=some x):∃a:q1k,d=q1r a/\(Lit.int .i64 a.n).wf=true:=by
 obtain⟨xs,n,_,_,e,k,b⟩:=DataW.trod_struct Tryz.underlying36 h;rw[qrn]at e;obtain⟨c0,c1,c2,c3,r,s,rfl⟩:=q46 e;obtain⟨u,v,w,z,rfl⟩:=q5o k;have f0:=b 0 _ rfl;have f1:=b 1 _ rfl;have f2:=b 2 _ rfl;have f3:=b 3 _ rfl;simp[qtt,qyw]at f0 f1 f2 f3;obtain⟨what,f,_,_⟩:=DataW.trod_int Tryz.underlying3 f0;obtain⟨m,g,_,_⟩:=DataW.trod_int Tryz.underlying3 f1;obtain⟨o,i,_,w2⟩:=DataW.trod_int Tryz.underlying3 f2;obtain⟨y,c⟩:=qva f3;simp at f g i c;obtain⟨c,p,q⟩:=c;subst f g i c p q;exact⟨⟨what,m,o,y.key,y.data,y.gone⟩,rfl,w2⟩
theorem qwl {r:Reach} {E:Nat} {v:Value} {d:DataW H} {p:List MemPlace}
 (F:Value.okWide Tryz.prog W r E 22 v) (h:DataW.Trod enc Tryz.prog W 0 (λ_=>true) true 22 v d p):
 ∃(a:Option Addr) (cap:Nat) (l:List q1k),v=.slice a l.length cap/\qlv W a cap l:=by
 obtain⟨a0,o,q,rfl⟩:=okWide_slice Tryz.underlying22 F;obtain⟨S,g⟩:=h;rcases open_slice Tryz.underlying22 g with ⟨k,_⟩|⟨a,len,cap,m,n,D,Pl,k,_,G,I,J,_,c⟩
 ·have e:Value.slice a0 o q=.slice none 0 0:=by simpa[Value.cells]using k
  rw[e];exact⟨none,0,[],rfl,⟨by simp,by omega,.inl rfl,λx c=>by simp at c⟩⟩
 ·have e:Value.slice a0 o q=.slice (some a) len cap:=by simpa[Value.cells]using k
  rw[e];simp at J
  have s:cap<=9223372036854775807:=by unfold maxLen at I;omega
  rcases Nat.eq_zero_or_pos len with rfl|K
  ·exact⟨some a,cap,[],rfl,⟨by simp,s,.inl rfl,λx c=>by simp at c⟩⟩
  ·have T:Inhabited q1k:=⟨⟨0,0,0,0,⟨#[]⟩,false⟩⟩
   have L:∀i,i<len->∃y:q1k,(∀r u,(q1r y)[r]?=some u->W.cell? ((a.add (i*6)).add r)=some u)/\(Lit.int .i64 y.n).wf=true:=λi w=>by
        obtain⟨U,z,M⟩:=c i (by omega);rw[qrn]at z;obtain⟨y,rfl,N⟩:=qww M;obtain⟨_,_,O⟩:=World.cells?_some z;refine⟨y,λr u j=>?_,N⟩
        have P:r<6:=by have:=(List.getElem?_eq_some_iff.1 j).1;simpa[q1r]using this
        have:=O r P;rw[this];exact j
   obtain⟨f,g⟩:=choose_lt L;obtain⟨b,B,Q⟩:=a
   have R:Q=none:=by simpa[Addr.add]using World.cell?_spot ((g 0 K).1 0 _ rfl)
   subst R;refine⟨some ⟨b,B,none⟩,cap,(List.range len).map f,by simp,⟨by simpa using G,s,.inr ⟨b,B,rfl,λi x r u c j=>?_⟩,λx c=>?_⟩⟩
   ·have C:i<len:=by have:=(List.getElem?_eq_some_iff.1 c).1;simpa using this
    have e:x=f i:=by
     rw[List.getElem?_map,List.getElem?_range C]at c;simpa using c.symm
    rw[e]at j;have:=(g i C).1 r u j;simp only[q1c]at this;rw[<-Nat.add_assoc];exact this
   ·obtain⟨i,w,rfl⟩:=List.mem_map.1 c;exact(g i (List.mem_range.1 w)).2
end
end
def qq5 (a0 a1 a2 a3:Int) (l:List Hd):List ByteArray:=(List.range 8).map λ(i:Nat)=>qhj a0 a1 a2 a3 l i
variable {w:World}
theorem qra {B:Nat} {v:Value} {a0 a1 a2 a3:Int} {l:List Hd} (h:w.ownsRow B 9 1 v 8 (qfj a0 a1 a2 a3 l 8)):∃a cap,v=.slice a (qq5 a0 a1 a2 a3 l).length cap/\qss w a cap (qq5 a0 a1 a2 a3 l):=
 qxb (T:=9) (B:=B) (by
  have e:qfj a0 a1 a2 a3 l 8=(qq5 a0 a1 a2 a3 l).map Value.string:=by
   unfold qfj qq5;rw[List.map_map];rfl
  rw[<-e]
  exact h)
theorem RS.box {b:Nat} {G:Nat->Prop} {F:Nat->Option Obj} {S:qaf} (h:RS w b G F S):∃lv a c sa e,qag w b (qcf S lv (.slice a S.waits.length c) (.slice sa S.l.length e)):=by
 obtain⟨lv,wv,sv,log,waits,M,k,f,m⟩:=h;obtain⟨a,c,rfl,n⟩:=qa6 M.rwait
 have d:waits.length=S.waits.length:=by rw[<-f];simp
 rcases M.own.2 with ⟨rfl,j⟩|⟨g,cap,cur,rfl,_,_,o,_⟩
 ·exact⟨lv,a,c,none,0,by rw[<-d,j];exact M.box⟩
 ·exact⟨lv,a,c,some ⟨g,0,none⟩,cap,by rw[<-d];exact M.box⟩
structure qn2 (w0:World) (bp br i:Nat) (W:WoS) (w:World):Prop where
 d:Duo w bp br W W (λk=>k<w0.heap.size)
 b:Below w0.heap.size w0 w
 i:PlI i W
variable {w0:World} {bp br i:Nat} {W:WoS}
theorem qn2.later {w':World} (h:qn2 w0 bp br i W w) (hb:Below w.heap.size w w'):qn2 w0 bp br i W w':=⟨h.d.later hb,qac h.b hb,h.i⟩
theorem qn2.mono {m:Nat} (h:qn2 w0 bp br i W w) (a:i<=m):qn2 w0 bp br m W w:=⟨h.d,h.b,h.i.mono a⟩
variable {Wp Wr:WoS} {X:Nat->Prop}
theorem qo6 (h:Duo w bp br Wp Wr X):Calls Tryz.prog 12 #[.pointer (some ⟨bp,0,none⟩)] w λe w'=>e=.returned (.int .i64 Wp.net.length)/\Below w.heap.size w w':=by
 obtain⟨_,_,p,_⟩:=h;exact(q3e w p).mono λe w' ⟨a,b⟩=>⟨a,by rw[b];exact Below.refl _ _⟩
theorem qop (h:Duo w bp br Wp Wr X):Calls Tryz.prog 13 #[.pointer (some ⟨bp,0,none⟩)] w λe w'=>e=.returned (.int .i64 Wp.lost)/\Below w.heap.size w w':=by
 obtain⟨_,_,p,_⟩:=h;exact(q4b w p).mono λe w' ⟨a,b⟩=>⟨a,by rw[b];exact Below.refl _ _⟩
theorem q48 (x:Bool) (w:World):(binOp .neq 4 (.bool x) (.bool x)).run Tryz.prog w=.ok (.bool false) w:=by
 cases x<;>kernel_rfl
end Go.Proofs.YtemiamjnhoeniaaGreatDoor
