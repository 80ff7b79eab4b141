import Derived.Test.YtoanjdndmlffdaaGreatDoorSiteF
import Derived.Test.YtoanjdndmlffdaaGreatDoorPSesCom
set_option maxHeartbeats 16000000
set_option maxRecDepth 1000000
namespace Go.Proofs.YtoanjdndmlffdaaGreatDoor
section
open Go.Value Go.IntKind Go.RowKit
theorem qnx {b:Nat} {M:RoM} {W:WoS} {K:Nat->Nat->Prop} (w:World) (h:RWo w b M W K) (x:GrR) (L:x.Ok w W.n M.F) {i j m o p s v z B z0 C z2 z3 z4:Int} {a:Option Addr} {n c:Nat} (H:qd9 x=[int i64 i,int i64 j,int i64 m,int i64 o,int i64 p,int i64 s,int i64 v,int i64 z,int i64 B,.slice a n c,int i64 z0,int i64 C,int i64 z2,int i64 z3,int i64 z4]):
 Calls Tryz.prog 82 #[.pointer (some ⟨b,0,none⟩),.agg #[int i64 i,int i64 j,int i64 m,int i64 o,int i64 p,int i64 s,int i64 v,int i64 z,int i64 B,.slice a n c,int i64 z0,int i64 C,int i64 z2,int i64 z3,int i64 z4]] w λe w'=>e=.returned (.tuple #[])/\qgh w b M K (qdd W x.g) w':=by
 have E:Hid (RWo w b M W K/\x.Ok w W.n M.F/\qd9 x=[int i64 i,int i64 j,int i64 m,int i64 o,int i64 p,int i64 s,int i64 v,int i64 z,int i64 B,.slice a n c,int i64 z0,int i64 C,int i64 z2,int i64 z3,int i64 z4]):=⟨h,L,H⟩
 have V:M.l.length=W.net.length:=by rw[<-h.nl];simp
 obtain⟨na,nc,I,r⟩:=qai h.yr;have hlt:=h.box.lt;have N:=boxed (Below.refl _ w) (.cells #[int i64 i,int i64 j,int i64 m,int i64 o,int i64 p,int i64 s,int i64 v,int i64 z,int i64 B,.slice a n c,int i64 z0,int i64 C,int i64 z2,int i64 z3,int i64 z4] 108);have G:=h.box.later N;rw[I]at G;have c4:=G.cell 4 _ rfl;have c5:=G.cell 5 _ rfl;have f4:=G.free 4 (by simp);have f5:=G.free 5 (by simp);by_cases J:300<=W.net.length
 ·have q:300<=(M.l.length:Int):=by omega
  have O:Hid (qdd W x.g={W with lost:=wrap64 (W.lost+1)}):=if_pos J;clear h L H r V J;go_enter Tryz.func82,Tryz.ntmps82
  go_wp2_with fail
  go_end0;refine⟨rfl,?_⟩;rw[O.out];exact⟨M.yv,M.l,(E.out.1.lostBox (Below.refl _ w) (wrap64 (W.lost+1))).later (boxed (Below.refl _ _) _),λ_ e=>.inl e,(qae.setCell _ _ _ (.inl rfl)).trans (qae.ofBelow (boxed (Below.refl _ _) _))⟩
 ·have q:¬300<=(M.l.length:Int):=by omega
  have O:Hid (qdd W x.g={W with net:=W.net++[x.g]}):=if_neg J
  have X:Hid (M.l.length<300):=by show _<_;omega
  obtain⟨i0,hi,hz0,hz1,hz2⟩:=info_parts qun;have hb2:=(boxed N.drew (.cells #[int i64 i,int i64 j,int i64 m,int i64 o,int i64 p,int i64 s,int i64 v,int i64 z,int i64 B,.slice a n c,int i64 z0,int i64 C,int i64 z2,int i64 z3,int i64 z4] 108));have Y:=qad h.yr (λk e=>N.drew.block k (h.yr.lt k e).2);rw[I]at Y;have P:Hid _:=I;have Z:Hid _:=h.apY
  have one:∀u∈([int i64 i,int i64 j,int i64 m,int i64 o,int i64 p,int i64 s,int i64 v,int i64 z,int i64 B,.slice a n c,int i64 z0,int i64 C,int i64 z2,int i64 z3,int i64 z4]:List Value),u.oneCell'=true:=by rw[<-H];exact qrc x
  have d:=qag.new (w:=w) (T:=108) [int i64 i,int i64 j,int i64 m,int i64 o,int i64 p,int i64 s,int i64 v,int i64 z,int i64 B,.slice a n c,int i64 z0,int i64 C,int i64 z2,int i64 z3,int i64 z4] rfl;change qag (w.alloc (.cells #[int i64 i,int i64 j,int i64 m,int i64 o,int i64 p,int i64 s,int i64 v,int i64 z,int i64 B,.slice a n c,int i64 z0,int i64 C,int i64 z2,int i64 z3,int i64 z4] 108)) w.heap.size [int i64 i,int i64 j,int i64 m,int i64 o,int i64 p,int i64 s,int i64 v,int i64 z,int i64 B,.slice a n c,int i64 z0,int i64 C,int i64 z2,int i64 z3,int i64 z4]at d;have g0:=d.cell 0 _ rfl;have k0:=d.free 0 (by simp);have g1:=d.cell 1 _ rfl;have k1:=d.free 1 (by simp);have g2:=d.cell 2 _ rfl;have k2:=d.free 2 (by simp);have g3:=d.cell 3 _ rfl;have k3:=d.free 3 (by simp);have g4:=d.cell 4 _ rfl;have k4:=d.free 4 (by simp);have g5:=d.cell 5 _ rfl;have k5:=d.free 5 (by simp);have g6:=d.cell 6 _ rfl;have k6:=d.free 6 (by simp);have g7:=d.cell 7 _ rfl;have k7:=d.free 7 (by simp);have g8:=d.cell 8 _ rfl;have k8:=d.free 8 (by simp);have D:=d.cell 9 _ rfl;have k9:=d.free 9 (by simp);have g10:=d.cell 10 _ rfl;have k10:=d.free 10 (by simp);have g11:=d.cell 11 _ rfl;have k11:=d.free 11 (by simp);have g12:=d.cell 12 _ rfl;have k12:=d.free 12 (by simp);have g13:=d.cell 13 _ rfl;have k13:=d.free 13 (by simp);have g14:=d.cell 14 _ rfl;have k14:=d.free 14 (by simp);clear h L H r V J I d;go_enter Tryz.func82,Tryz.ntmps82
  go_wp2_with fail
  go_region_law (refine step_append_lies _ rfl (.tmp 21) (.tmp 23) 72 rfl 0 108 i0 (.agg #[int i64 0,int i64 0,int i64 0,int i64 0,int i64 0,int i64 0,int i64 0,int i64 0,int i64 0,.slice none 0 0,int i64 0,int i64 0,int i64 0,int i64 0,int i64 0]) 15 136 Tryz.underlying72 hi hz0 hz1 hz2 rfl (by decide) (.slice na M.l.length nc) M.l.length (qiw M.l) (by simp[Act.eval]) (Y.alloc _) ⟨w.heap.size+1,0,none⟩ 1 1 [int i64 i,int i64 j,int i64 m,int i64 o,int i64 p,int i64 s,int i64 v,int i64 z,int i64 B,.slice a n c,int i64 z0,int i64 C,int i64 z2,int i64 z3,int i64 z4] (by simp[Act.eval]) rfl (qq9 _ _ (by simp) [int i64 i,int i64 j,int i64 m,int i64 o,int i64 p,int i64 s,int i64 v,int i64 z,int i64 B,.slice a n c,int i64 z0,int i64 C,int i64 z2,int i64 z3,int i64 z4] 108) one (by decide) (by have:=X.out;simp only[maxLen];omega) (by have:=X.out;omega) (by omega) _ rfl ?_
                 intro D Q wE ownE grE egE ltE;have R:qag wE b _:=(G.later (boxed (Below.refl _ _) _).drew).grown grE (λe=>Z.out (by rw[P.out];exact e.symm));have e4:=R.cell 4 _ rfl
                 have f4E:=R.free 4 (by simp))
  all_goals
   go_wp2_with fail
   go_end0;refine⟨rfl,?_⟩;rw[O.out];have S:=((qae.ofBelow hb2).trans (qae.grown (F:=λk=>k=b\/M.yv.ownBlock=some k) grE (λk e=>.inr (by rw[P.out];exact e)))).trans (qae.setCell wE ⟨b,4,none⟩ (.slice (some ⟨D,0,none⟩) (M.l.length+1) Q) (.inl rfl))
   have U:∀k,(Value.slice (some ⟨D,0,none⟩) (M.l.length+1) Q).ownBlock=some k->M.yv.ownBlock=some k\/w.heap.size<=k:=λk e=>by
        rw[P.out];have e':D=k:=Option.some.inj e;subst e';rcases egE with e|e
        ·exact .inl e
        ·exact .inr (by rw[e];simp;omega)
   have gb:D≠b:=λe=>by
        rcases U D rfl with q|q
        ·exact Z.out (by rw[q,e])
        ·have:=E.out.1.box.lt;omega
   refine⟨.slice (some ⟨D,0,none⟩) (M.l.length+1) Q,M.l++[x],E.out.1.reway (λk hk h1 h2=>S.block k hk (λq=>q.elim h1 h2)) S.size ?_ ?_ U (by rw[List.map_append,E.out.1.nl];rfl) (λy hy=>(List.mem_append.1 hy).imp id (λq=>by rw[List.mem_singleton.1 q];exact E.out.2.1)),U,S⟩
   ·exact R.set 4 _ (by simp)
   ·rw[q39,List.length_append,E.out.2.2];exact qad ownE (λk e=>Below.heap_setCell _ _ _ _ (λq=>gb ((Option.some.inj e).trans q)))
end
section
open Go.RowKit
variable {i:Nat} {G:Nat->Prop}
section
variable {w:World} {b:Nat} {M:RoM} {W:WoS} {Gs:Nat->Nat->Prop}
theorem RWo.sitesAt (h:RWo w b M W Gs) (hi:i<W.n):∃g cap,w.cell? ⟨b,0,none⟩=some (.slice (some ⟨g,0,none⟩) W.n cap)/\W.n<=cap/\g<w.heap.size/\∀j,j<W.n->w.cell? ⟨g,j,none⟩=some (.pointer (some ⟨M.bp j,0,none⟩)):=by
 obtain⟨a,cap,c,r⟩:=qai h.sr;rcases r.held with k|⟨g,rfl,d,e⟩
 ·omega
 ·exact⟨g,cap,by have:=h.box.cell 0 _ rfl;rw[c]at this;exact this,r.len,d,λj f=>e j _ (qr9 f)⟩
theorem RS.applied {F:Nat->Option Obj} {S:qaf} (h:RS w b G F S):w.cell? ⟨b,1,none⟩=some (.int .i64 S.a0)/\w.cell? ⟨b,2,none⟩=some (.int .i64 S.a1)/\w.cell? ⟨b,3,none⟩=some (.int .i64 S.a2)/\w.cell? ⟨b,4,none⟩=some (.int .i64 S.a3)/\b<w.heap.size:=by
 obtain⟨_,_,_,_,_,a,_⟩:=h;exact⟨a.box.cell 1 _ rfl,a.box.cell 2 _ rfl,a.box.cell 3 _ rfl,a.box.cell 4 _ rfl,a.box.lt⟩
end
variable {b:Nat} {W:WoS}
theorem q9k (w:World) (h:RW w b G W) {o:Nat} (hi:i<W.n):
 Calls Tryz.prog 36 #[.pointer (some ⟨b,0,none⟩),.int .i64 i,.int .i64 o] w λe w'=>e=.returned (.tuple #[])/\qfc w b G (qvm W i o) w':=by
 obtain⟨M,Gs,h,a⟩:=h;obtain⟨g,cap,c0,q,r,d⟩:=h.sitesAt hi;have c1:=d i hi;obtain⟨a0,a1,a2,a3,s⟩:=(h.site hi).applied
 have t:(i:Int)<(W.n:Int):=by omega
 have u:=h.box.lt;have j:=qnx w h ⟨⟨o,.ask i (W.S i).a0 (W.S i).a1 (W.S i).a2 (W.S i).a3⟩,none,0⟩ ⟨⟨Nat.le_refl _,Nat.zero_le _,.inl rfl⟩,λk l=>absurd rfl l.1,λ_ _ _ _ _ _=>⟨rfl,rfl⟩⟩ rfl;have m:Hid _:=a;clear h a d hi;go_enter Tryz.func36,Tryz.ntmps36
 go_wp2_with fail
 refine j.mono ?_;rintro e v ⟨rfl,p⟩
 go_wp2_with fail
 go_end0;have sm:=qbk W ⟨o,.ask i (W.S i).a0 (W.S i).a1 (W.S i).a2 (W.S i).a3⟩;exact⟨rfl,p.post (W:=W) m.out sm.n sm.c⟩
theorem q6v (w:World) (h:RW w b G W) {g:GrS} (hi:W.net[i]?=some g):
 Calls Tryz.prog 39 #[.pointer (some ⟨b,0,none⟩),.int .i64 i] w λe w'=>e=.returned (.tuple #[])/\qfc w b G (qdd W g) w':=by
 obtain⟨M,Gs,h,k⟩:=h
 have s:M.l.length=W.net.length:=by rw[<-h.nl];simp
 have t:i<M.l.length:=by have:=(List.getElem?_eq_some_iff.1 hi).1;omega
 obtain⟨x,d⟩:∃x,M.l[i]?=some x:=⟨_,List.getElem?_eq_getElem t⟩
 have v:x.g=g:=by
  have:=hi;rw[<-h.nl,List.getElem?_map,d]at this;exact Option.some.inj this
 subst v;have m:x∈M.l:=List.mem_of_getElem? d;obtain⟨y,D,o,r⟩:=qai h.yr
 obtain⟨nb,rfl,E,p⟩:∃g,y=some ⟨g,0,none⟩/\g<w.heap.size/\∀j u,(qiw M.l)[j]?=some u->w.cell? ⟨g,j,none⟩=some u:=by
  rcases r.held with q|q
  ·omega
  ·exact q
 have c4:=h.box.cell 4 _ rfl;rw[o]at c4;have a:=λr u (hu:(qd9 x)[r]?=some u)=>p _ _ (q16 d hu);have x0:w.cell? ⟨nb,i*15,none⟩=some (.int .i64 x.g.to):=a 0 _ rfl;have x1:=a 1 _ rfl;have x2:=a 2 _ rfl;have x3:=a 3 _ rfl;have F:=a 4 _ rfl;have H:=a 5 _ rfl;have I:=a 6 _ rfl;have J:=a 7 _ rfl;have K:=a 8 _ rfl;have L:=a 9 _ rfl;have N:=a 10 _ rfl;have O:=a 11 _ rfl;have P:=a 12 _ rfl;have Q:=a 13 _ rfl;have R:=a 14 _ rfl;have z:=qnx w h x (h.gr x m) rfl;have B:Hid _:=k;have S:=h.box.lt
 have T:(i:Int)<(M.l.length:Int):=by omega
 have U:=r.len;clear h k p a r o d m hi s;go_enter Tryz.func39,Tryz.ntmps39
 go_wp2_with fail
 refine z.mono ?_;rintro e V ⟨rfl,C⟩
 go_wp2_with fail
 go_end0;have sm:=qbk W x.g;exact⟨rfl,C.post (W:=W) B.out sm.n sm.c⟩
end
section
open Go.RowKit
structure qlv (w:World) (a:Option Addr) (cap:Nat) (l:List GrR):Prop where
 len:l.length<=cap
 cap:cap<=9223372036854775807
 held:l=[]\/∃b off,a=some ⟨b,off,none⟩/\∀i m r u,l[i]?=some m->(qd9 m)[r]?=some u->w.cell? ⟨b,off+(i*15+r),none⟩=some u
variable {w:World} {a:Option Addr} {l:List GrR}
theorem qlv.later {w':World} {cap:Nat} (hb:Below w.heap.size w w') (h:qlv w a cap l):qlv w' a cap l:=
 ⟨h.len,h.cap,h.held.elim .inl λ⟨b,d,e,c⟩=>.inr ⟨b,d,e,λi m r u hi f=>cell_later hb (c i m r u hi f)⟩⟩
theorem q2c {B:Nat} {T:TypeId} {v:Value} (h:w.ownsRow B T 15 v l.length (qiw l)):∃a cap,v=.slice a l.length cap/\qlv w a cap l:=by
 rcases h.2 with ⟨rfl,b⟩|⟨g,cap,cur,rfl,hb,k,e,f,hs,o⟩
 ·exact⟨none,0,by rw[b],⟨by omega,by omega,.inl (List.eq_nil_of_length_eq_zero b)⟩⟩
 ·refine⟨_,cap,rfl,⟨e,by simp only[maxLen]at f;omega,.inr ⟨g,0,rfl,λi m r u hi j=>?_⟩⟩⟩;have d:=h.cells (g:=g) rfl _ _ (q16 hi j);rw[qc7]at d;rw[Nat.zero_add];exact d
theorem q7y (l:List GrR):∀u∈qiw l,u.oneCell'=true:=by
 intro u b;obtain⟨x,_,d⟩:=List.mem_flatMap.1 b;exact qrc x u d
theorem qyf:∀(l:List GrR) (j:Nat) (u:Value),(qiw l)[j]?=some u->∃m,l[j/15]?=some m/\(qd9 m)[j%15]?=some u
 |[],j,u,h=>by simp[qiw]at h
 |x::l,j,u,h=>by
  have e:qiw (x::l)=qd9 x++qiw l:=rfl;rw[e]at h;have b:(qd9 x).length=15:=rfl;by_cases d:j<15
  ·rw[List.getElem?_append_left (by rw[b];exact d)]at h;exact⟨x,by rw[Nat.div_eq_of_lt d];rfl,by rw[Nat.mod_eq_of_lt d];exact h⟩
  ·rw[List.getElem?_append_right (by rw[b];omega),b]at h;obtain⟨m,f,i⟩:=qyf l (j-15) u h;refine⟨m,?_,?_⟩
   ·rw[show j/15=(j-15)/15+1 by omega];simpa using f
   ·rw[show j%15=(j-15)%15 by omega];exact i
variable {wb:Nat}
theorem q7s {b:Nat} (h:∀i m r u,l[i]?=some m->(qd9 m)[r]?=some u->w.cell? ⟨wb,b+(i*15+r),none⟩=some u):∀j u,(qiw l)[j]?=some u->w.cell? ((⟨wb,b,none⟩:Addr).add j)=some u:=λj u d=>by
 obtain⟨m,e,f⟩:=qyf l j u d
 have k:(⟨wb,b,none⟩:Addr).add j=⟨wb,b+j,none⟩:=by unfold Addr.add;split<;>simp_all
 rw[k];have:=h (j/15) m (j%15) u e f;rw[show j/15*15+j%15=j by omega]at this;exact this
theorem qnt (w:World) (b:TypeId) (g n cap c:Nat) (d:n<=cap):(Builtin.append_ #[72,72] b #[.slice (some ⟨g,0,none⟩) n cap,.slice none 0 c]).run Tryz.prog w=.ok (.slice (some ⟨g,0,none⟩) n cap) w:=by
 simp[Builtin.append_,go_sem,Builtin.lenOf,Builtin.firstCells,d]
variable {g n c:Nat} {xs:List Value}
theorem qp5 (w:World) (f:TypeId) {cap:Nat} (b:w.ownsRow 0 108 15 (.slice (some ⟨g,0,none⟩) n cap) n xs) (m:qlv w a c l) (E:n+l.length<=2000):
 ∃g' d w',(Builtin.append_ #[72,72] f #[.slice (some ⟨g,0,none⟩) n cap,.slice a l.length c]).run Tryz.prog w=.ok (.slice (some ⟨g',0,none⟩) (n+l.length) d) w'/\
  w'.ownsRow 0 108 15 (.slice (some ⟨g',0,none⟩) (n+l.length) d) (n+l.length) (xs++qiw l)/\w.grownBy w' (some g)/\(g'=g\/g'=w.heap.size)/\g'<w'.heap.size:=by
 obtain⟨i0,hi,o,p,q⟩:=info_parts qun;have r:g<w.heap.size:=(b.lt g (by simp[Value.ownBlock])).2
 have s:n<=cap:=by
  rcases b.2 with ⟨h,_⟩|⟨F,G,cur,e,_,_,i,_⟩
  ·cases h
  ·injection e with _ _ e3;rw[e3];exact i
 cases a with
 |none=>
  have v:l=[]:=by
   rcases m.held with h|⟨_,_,h,_⟩
   ·exact h
   ·cases h
  subst v;refine⟨g,cap,w,qnt w f g n cap c s,?_,⟨rfl,rfl,rfl,Nat.le_refl _,λ_ _ _=>rfl⟩,.inl rfl,r⟩;show w.ownsRow 0 _ 15 _ n (xs++[]);rw[List.append_nil];exact b
 |some ad=>
  have x:∀j u,(qiw l)[j]?=some u->w.cell? (ad.add j)=some u:=by
   rcases m.held with h|⟨wb,H,h,y⟩
   ·subst h;intro j u z;simp[qiw]at z
   ·injection h with h;subst h;exact q7s y
  obtain⟨v',w',B,k,i,C,D⟩:=run_append_own_at (P:=Tryz.prog) w 0 72 f 108 i0 (.agg #[.int .i64 0,.int .i64 0,.int .i64 0,.int .i64 0,.int .i64 0,.int .i64 0,.int .i64 0,.int .i64 0,.int .i64 0,.slice none 0 0,.int .i64 0,.int .i64 0,.int .i64 0,.int .i64 0,.int .i64 0]) 15 136 Tryz.underlying72 hi o p q rfl (by decide) (.slice (some ⟨g,0,none⟩) n cap) n xs b ad l.length c (qiw l) (qvl l) x (q7y l) (by simp only[maxLen];omega) (by omega) (Nat.zero_le _);rcases k.2 with ⟨e,_⟩|⟨g',d,cur,rfl,_,_⟩
  ·have:=(C.1 e).1;cases this
  ·refine⟨g',d,w',B,k,i,?_,(k.lt g' (by simp[Value.ownBlock])).2⟩;rcases D with h|h
   ·exact .inl (by simpa[Value.ownBlock]using h)
   ·exact .inr (by simpa[Value.ownBlock]using h)
theorem qe4 {d:Array Oper} {o:Oper} {a:Act} {K:Act->World->Prop} {Q:Exit->Act->World->Prop} {E:Prop} (w:World) (e:o.guard=none) (s x:Operand) (f:o.op=.call {callee:=.builtin .append,args:=#[s,x],argTypes:=#[72,72]})
 {cap:Nat} (hs:a.eval s=.slice (some ⟨g,0,none⟩) n cap) (i:w.ownsRow 0 108 15 (.slice (some ⟨g,0,none⟩) n cap) n xs) {sa:Option Addr} (j:a.eval x=.slice sa l.length c) (k:qlv w sa c l) (m:n+l.length<=2000)
 (h:∀g' b w',w'.ownsRow 0 108 15 (.slice (some ⟨g',0,none⟩) (n+l.length) b) (n+l.length) (xs++qiw l)->w.grownBy w' (some g)->(g'=g\/g'=w.heap.size)->g'<w'.heap.size->K (a.put o.dst (.slice (some ⟨g',0,none⟩) (n+l.length) b)) w'):
 if Region.wanted o (yielded d a.tmps)=true then Oper.wp Tryz.prog o a w K Q else E:=by
 have p:Region.wanted o (yielded d a.tmps)=true:=by simp[Region.wanted,e]
 rw[if_pos p];obtain⟨g',b,w',q,r,u,v,y⟩:=qp5 w o.type i k m;unfold Oper.wp execOp;simp only[f,resolve,invoke,builtin,Sem.run_bind,Sem.run_pure,Result.andThen_ok,List.map_toArray,List.map_cons,List.map_nil,hs,j,q];exact h g' b w' r u v y
theorem qq8 (w:World) (T:TypeId) (b:w.heap.size=n):(w.alloc (.cells #[] T)).ownsRow 0 T 15 (.slice (some ⟨n,0,none⟩) 0 0) 0 []:=by
 subst b;exact⟨rfl,.inr ⟨w.heap.size,0,#[],rfl,Nat.zero_le _,heap_alloc_new w (.cells #[] T),Nat.le_refl _,by decide,rfl,rfl⟩⟩
theorem qlv.take {d:Nat} (h:qlv w (some ⟨wb,d,none⟩) c l) (k:Nat) (s:k<=l.length):qlv w (some ⟨wb,d,none⟩) c (l.take k):=by
 refine⟨by rw[List.length_take];have:=h.len;omega,h.cap,?_⟩;rcases h.held with f|⟨j,o,e,p⟩
 ·exact .inl (by rw[f];simp)
 ·refine .inr ⟨j,o,e,λi m r u b q=>p i m r u ?_ q⟩;rw[List.getElem?_take]at b;split at b
  ·exact b
  ·cases b
theorem qlv.drop {b:Nat} (h:qlv w (some ⟨wb,b,none⟩) c l) (k:Nat) (p:k<=l.length):qlv w (some ⟨wb,b+k*15,none⟩) (c-k) (l.drop k):=by
 refine⟨by rw[List.length_drop];have:=h.len;omega,by have:=h.cap;omega,?_⟩;rcases h.held with f|⟨q,s,e,j⟩
 ·exact .inl (by rw[f];simp)
 ·injection e with e;injection e with e1 e2;subst e1 e2;refine .inr ⟨_,_,rfl,λi m r u d o=>?_⟩;rw[List.getElem?_drop]at d;have:=j (k+i) m r u d o;rw[show b+k*15+(i*15+r)=b+((k+i)*15+r) by omega];exact this
theorem qv6 (l b:List GrR):qiw (l++b)=qiw l++qiw b:=by simp[qiw]
end
section
open Go.RowKit
def qjn (b:Nat):World->Nat->List Value->World
 |W,_,[]=>W
 |W,j,v::l=>qjn b (W.setCell ⟨b,j,none⟩ v) (j+1) l
theorem qor {b:Nat}:∀(l a rest:List Value) (W:World),qag W b (a++rest)->rest.length=l.length->qag (qjn b W a.length l) b (a++l)
 |[],a,rest,W,h,hl=>by
  have:rest=[]:=List.eq_nil_of_length_eq_zero hl;subst this;exact h
 |v::l,a,[],W,h,hl=>by simp at hl
 |v::l,a,r::rest,W,h,hl=>by
  have c:=h.set a.length v (by simp)
  have e:(a++r::rest).set a.length v=a++v::rest:=by simp
  rw[e]at c;have:=qor l (a++[v]) rest (W.setCell ⟨b,a.length,none⟩ v) (by simpa using c) (by simpa using hl);simpa[qjn]using this
variable {b:Nat} {W:World}
theorem qzu {xs l:List Value} (h:qag W b xs) (a:xs.length=l.length):qag (qjn b W 0 l) b l:=qor l [] xs W h a
theorem qg6 {k:Nat} (a:k≠b):∀(l:List Value) (j:Nat) (W:World),(qjn b W j l).heap[k]?=W.heap[k]?
 |[],_,_=>rfl
 |_::l,j,_=>(qg6 a l (j+1) _).trans (Below.heap_setCell _ _ _ _ a)
theorem qla {b:Nat}:∀(l:List Value) (j:Nat) (W:World),(qjn b W j l).os=W.os/\(qjn b W j l).tape=W.tape/\(qjn b W j l).output=W.output/\(qjn b W j l).heap.size=W.heap.size
 |[],_,_=>⟨rfl,rfl,rfl,rfl⟩
 |v::l,j,W=>by
  have h:=qla (b:=b) l (j+1) (W.setCell ⟨b,j,none⟩ v);exact⟨h.1,h.2.1,h.2.2.1,h.2.2.2.trans (by simp[World.setCell])⟩
theorem qni {F:Nat->Prop} {w:World} (h:qae F w W) (hb:w.heap.size<=b) (l:List Value):qae F w (qjn b W 0 l):=by
 have s:=qla (b:=b) l 0 W;exact⟨s.1.trans h.os,s.2.1.trans h.tape,s.2.2.1.trans h.output,by rw[s.2.2.2];exact h.size,λk a c=>(qg6 (by omega) l 0 W).trans (h.block k a c)⟩
section
variable {w W9:World} {b:Nat} {M:RoM} {W:WoS} {Gs:Nat->Nat->Prop}
theorem RWo.outed (h:RWo w b M W Gs) {a:Value} {i:Nat} (c:qae (λk=>k=b) w W9) (d:qag W9 b [M.sv,M.wv,M.cv,M.av,a,.int .i64 W.lost]) (own:W9.ownsRow 0 108 15 a (M.l.eraseIdx i).length (qiw (M.l.eraseIdx i))) (f:∀k,a.ownBlock=some k->w.heap.size<=k):
 RWo W9 b {M with yv:=a,l:=M.l.eraseIdx i} (qdh W i) Gs:=
 h.reway (λk g j _=>c.block k g j) c.size d own (λk e=>.inr (f k e)) (by rw[<-h.nl,List.eraseIdx_eq_take_drop_succ,List.eraseIdx_eq_take_drop_succ,List.map_append,List.map_take,List.map_drop]) (λx m=>.inl (List.mem_of_mem_eraseIdx m))
end
end
section
open Go.RowKit
theorem qgk {w w':World} {p:Addr} (hb:Below w.heap.size w w') (h:w.frozen? p=false) (a:p.block<w.heap.size):w'.frozen? p=false:=by rw[hb.frozen a];exact h
def jdf (w:World) (b:Nat) (l:List GrR) (w':World):Prop:=∃g c w7,w'=w7.setCell ⟨b,4,none⟩ (.slice (some ⟨g,0,none⟩) l.length c)/\Below w.heap.size w w7/\w.heap.size<=g/\w7.ownsRow 0 108 15 (.slice (some ⟨g,0,none⟩) l.length c) l.length (qiw l)
noncomputable def jdz:Code:=((Tryz.f38.body.bind (qc8 2)).getD .skip)
theorem q3e {b i nb p q:Nat} {l:List GrR} {L M N O P Q S T U V W y13 y14 y15 y16 y17 y18 y19 y20 y21 y22 y23 y24 y25 y26 y27 y28 y29 y30 y31 X:Value} (a:World) (s:a.cell? ⟨b,4,none⟩=some (.slice (some ⟨nb,p,none⟩) l.length q)) (x:a.frozen? ⟨b,4,none⟩=false) (y:qlv a (some ⟨nb,p,none⟩) q l) (hil:i<l.length) (Y:l.length<=300) (R:Act->World->Prop)
 (Z:∀(u13 u14 u15 u16 u17 u18 u19 u20 u21 u22 u23 u24 u25 u26 u27 u28 u29 u30 u31:Value) (w8:World),jdf a b (l.eraseIdx i) w8->R ⟨List.toArray ((.pointer (some ⟨b,0,none⟩))::(.int .i64 i)::L::M::N::O::P::Q::S::T::U::V::W::u13::u14::u15::u16::u17::u18::u19::u20::u21::u22::u23::u24::u25::u26::u27::u28::u29::u30::u31::X::[]),[]⟩ w8):
 Code.wp Tryz.prog jdz (Exit.then R (λ_ _ _=>False)) ⟨List.toArray ((.pointer (some ⟨b,0,none⟩))::(.int .i64 i)::L::M::N::O::P::Q::S::T::U::V::W::y13::y14::y15::y16::y17::y18::y19::y20::y21::y22::y23::y24::y25::y26::y27::y28::y29::y30::y31::X::[]),[]⟩ a:=by
 have HR:Hid _:=Z;clear Z;have B:Hid _:=y;have z:b<a.heap.size:=World.block_lt_of_cell? _ _ s;have hrl:=y.len;have hrc:=y.cap;have u:Hid _:=Y
 have q1:(i:Int)<(l.length:Int):=by omega
 have j2:(i:Int)<=(l.length:Int):=by omega
 have j4:((i:Int)+1)<=(l.length:Int):=by omega
 have j5:(0:Int)<=(i:Int)+1:=by omega
 have j6:((i:Int)+1).toNat=i+1:=by omega
 have j7:(i:Int)<=(q:Int):=by omega
 have j8:(0:Int)<=(i:Int):=by omega
 have hwz:IntKind.i64.wrap ((i:Int)+1)=(i:Int)+1:=by have:=u.out;unfold IntKind.wrap;simp[IntKind.signed,IntKind.bits];omega
 have C:Hid _:=hil
 have FIN:Hid (∀f r h m,m=0+(l.take i).length+(l.drop (i+1)).length->Below a.heap.size a h->a.heap.size<=f->h.ownsRow 0 108 15 (.slice (some ⟨f,0,none⟩) (0+(l.take i).length+(l.drop (i+1)).length) r) (0+(l.take i).length+(l.drop (i+1)).length) ([]++qiw (l.take i)++qiw (l.drop (i+1)))->jdf a b (l.eraseIdx i) (h.setCell ⟨b,4,none⟩ (.slice (some ⟨f,0,none⟩) m r))):=λf r h m hm k hg ho=>by
  have hN:0+(l.take i).length+(l.drop (i+1)).length=(l.eraseIdx i).length:=by rw[List.eraseIdx_eq_take_drop_succ];simp<;>omega
  rw[hN]at hm ho;subst hm;refine⟨f,r,h,rfl,k,hg,?_⟩
  have e:qiw (l.eraseIdx i)=[]++qiw (l.take i)++qiw (l.drop (i+1)):=by rw[List.eraseIdx_eq_take_drop_succ,qv6];rfl
  rw[e];exact ho
 clear y Y
 conv=>arg 2;whnf
 by_cases hvz:q=i+1
 ·subst hvz
  have j9:(i:Int)<=(i:Int)+1:=by omega
  go_region_law (first
   |(refine qe4 _ rfl (.tmp 14) (.tmp 20) rfl (g:=a.heap.size) (n:=0) (cap:=0) (xs:=[]) (by simp[Act.eval,Act.put]) (qq8 a 108 rfl) (sa:=some ⟨nb,p,none⟩) (c:=i+1) (l:=l.take i) (by simp[Act.eval,Act.put]<;>omega) ((B.out.take i (by have:=C.out;omega)).later (by repeat (first|(with_reducible assumption)|(with_reducible exact Below.refl _ _)|(with_reducible refine boxed ?_ _)|(with_reducible refine Below.drew ?_)))) (by have:=u.out;simp;omega) ?_
     intro g1 c1_ v D E F G;have w:Hid (a.heap.size<=g1/\g1<v.heap.size):=⟨by simp at F;omega,G⟩;have d:Below a.heap.size a v:=Below.grown (by repeat (first|(with_reducible assumption)|(with_reducible exact Below.refl _ _)|(with_reducible refine boxed ?_ _)|(with_reducible refine Below.drew ?_))) E (by simp<;>omega) (λj o=>by simp at o;omega);have c46:=cell_later d s
     have f46:=qgk d x z)
   |(refine qe4 _ rfl (.tmp 21) (.tmp 28) rfl (by simp[Act.eval,Act.put]) D (sa:=some ⟨nb,p,none⟩) (c:=0) (l:=l.drop (i+1)) (by simp[Act.eval,Act.put]<;>omega) (⟨by simp;omega,by omega,.inl (List.drop_eq_nil_of_le (by omega))⟩) (by have:=u.out;simp;omega) ?_
     intro f r h H I eg7 J;have k:Below a.heap.size a h:=Below.grown d I d.size (λj o=>by have:=w.out;simp at o;omega);have K:Hid (a.heap.size<=f/\f<h.heap.size):=⟨by have:=w.out;have:=d.size;omega,J⟩;have c47:=cell_later k s
     have f47:=qgk k x z))
  all_goals
   go_simp
   refine HR.out _ _ _ _ _ _ _ _ _ _ _ _ _ _ _ _ _ _ _ _ ?_;exact FIN.out _ _ _ _ (by simp<;>omega) k K.out.1 H
 ·skip
  go_region_law (first
   |(refine qe4 _ rfl (.tmp 14) (.tmp 20) rfl (g:=a.heap.size) (n:=0) (cap:=0) (xs:=[]) (by simp[Act.eval,Act.put]) (qq8 a 108 rfl) (sa:=some ⟨nb,p,none⟩) (c:=q) (l:=l.take i) (by simp[Act.eval,Act.put]<;>omega) ((B.out.take i (by have:=C.out;omega)).later (by repeat (first|(with_reducible assumption)|(with_reducible exact Below.refl _ _)|(with_reducible refine boxed ?_ _)|(with_reducible refine Below.drew ?_)))) (by have:=u.out;simp;omega) ?_
     intro g1 c1_ v D E F G;have w:Hid (a.heap.size<=g1/\g1<v.heap.size):=⟨by simp at F;omega,G⟩;have d:Below a.heap.size a v:=Below.grown (by repeat (first|(with_reducible assumption)|(with_reducible exact Below.refl _ _)|(with_reducible refine boxed ?_ _)|(with_reducible refine Below.drew ?_))) E (by simp<;>omega) (λj o=>by simp at o;omega);have c46:=cell_later d s
     have f46:=qgk d x z)
   |(refine qe4 _ rfl (.tmp 21) (.tmp 28) rfl (by simp[Act.eval,Act.put]) D (sa:=some ⟨nb,p+(i+1)*15,none⟩) (c:=q-(i+1)) (l:=l.drop (i+1)) (by simp[Act.eval,Act.put]<;>omega) ((B.out.drop (i+1) (by have:=C.out;omega)).later d) (by have:=u.out;simp;omega) ?_
     intro f r h H I eg7 J;have k:Below a.heap.size a h:=Below.grown d I d.size (λj o=>by have:=w.out;simp at o;omega);have K:Hid (a.heap.size<=f/\f<h.heap.size):=⟨by have:=w.out;have:=d.size;omega,J⟩;have c47:=cell_later k s
     have f47:=qgk k x z))
  all_goals
   go_simp
   refine HR.out _ _ _ _ _ _ _ _ _ _ _ _ _ _ _ _ _ _ _ _ ?_;exact FIN.out _ _ _ _ (by simp<;>omega) k K.out.1 H
end
section
open Go.Value Go.IntKind Go.RowKit
variable {y0 y1 y2 y3 y4 y5 y6 y7 y8 z0 z1 z2 z3 z4:Int} {a:Option Addr} {n c:Nat}
theorem qv1 {tmps:Array Value} {w:World} {g:Nat} (h:qag w g [int i64 y0,int i64 y1,int i64 y2,int i64 y3,int i64 y4,int i64 y5,int i64 y6,int i64 y7,int i64 y8,.slice a n c,int i64 z0,int i64 z1,int i64 z2,int i64 z3,int i64 z4]) (b:tmps[4]?=some (.pointer (some ⟨g,0,none⟩))):(results Tryz.f38 tmps).run Tryz.prog w=.ok (.agg #[int i64 y0,int i64 y1,int i64 y2,int i64 y3,int i64 y4,int i64 y5,int i64 y6,int i64 y7,int i64 y8,.slice a n c,int i64 z0,int i64 z1,int i64 z2,int i64 z3,int i64 z4]) w:=by
 obtain⟨d,e,i,j,k,l,m,o,p,q,r,s,t,u,v⟩:=h.c15;simp[results,Tryz.results38,go_sem,b,d,e,i,j,k,l,m,o,p,q,r,s,t,u,v]
theorem jb2 {b:Nat} {M:RoM} {W:WoS} {I:Nat->Nat->Prop} (w:World) (h:RWo w b M W I) (hn:W.net.length<=300) {i:Nat} {x:GrR} (F:M.l[i]?=some x) (hc:qd9 x=[int i64 y0,int i64 y1,int i64 y2,int i64 y3,int i64 y4,int i64 y5,int i64 y6,int i64 y7,int i64 y8,.slice a n c,int i64 z0,int i64 z1,int i64 z2,int i64 z3,int i64 z4]):
 Calls Tryz.prog 38 #[.pointer (some ⟨b,0,none⟩),int i64 i] w λe w'=>e=.returned (.agg #[int i64 y0,int i64 y1,int i64 y2,int i64 y3,int i64 y4,int i64 y5,int i64 y6,int i64 y7,int i64 y8,.slice a n c,int i64 z0,int i64 z1,int i64 z2,int i64 z3,int i64 z4])/\∃S,RWo w' b {M with yv:=S,l:=M.l.eraseIdx i} (qdh W i) I/\(∀k,S.ownBlock=some k->w.heap.size<=k)/\qae (λk=>k=b) w w':=by
 have hlen:M.l.length=W.net.length:=by rw[<-h.nl];simp
 have J:i<M.l.length:=(List.getElem?_eq_some_iff.1 F).1;obtain⟨na,vc,U,r⟩:=q2c h.yr
 obtain⟨nb,z,rfl,V⟩:∃g z,na=some ⟨g,z,none⟩/\∀i m r u,M.l[i]?=some m->(qd9 m)[r]?=some u->w.cell? ⟨g,z+(i*15+r),none⟩=some u:=by
  rcases r.held with K|K
  ·rw[K]at J;simp at J
  ·exact K
 have c4:=h.box.cell 4 _ rfl;have X:=h.box.free 4 (by simp);rw[U]at c4;have j:=λr u (hu:[int i64 y0,int i64 y1,int i64 y2,int i64 y3,int i64 y4,int i64 y5,int i64 y6,int i64 y7,int i64 y8,.slice a n c,int i64 z0,int i64 z1,int i64 z2,int i64 z3,int i64 z4][r]?=some u)=>(show w.cell? ⟨nb,z+i*15+r,none⟩=some u by rw[Nat.add_assoc];exact V i x r u F (by rw[hc];exact hu));have x0:w.cell? ⟨nb,z+i*15,none⟩=some (int i64 y0):=j 0 _ rfl;have x1:=j 1 _ rfl;have x2:=j 2 _ rfl;have x3:=j 3 _ rfl;have x4:=j 4 _ rfl;have x5:=j 5 _ rfl;have x6:=j 6 _ rfl;have x7:=j 7 _ rfl;have x8:=j 8 _ rfl;have x9:=j 9 _ rfl;have x10:=j 10 _ rfl;have x11:=j 11 _ rfl;have x12:=j 12 _ rfl;have x13:=j 13 _ rfl;have x14:=j 14 _ rfl;have hlt:=h.box.lt;have hblt:nb<w.heap.size:=World.block_lt_of_cell? _ _ x0
 have q1:(i:Int)<(M.l.length:Int):=by omega
 have D:Hid (RWo w b M W I/\M.l[i]?=some x/\qlv w (some ⟨nb,z,none⟩) vc M.l/\M.l.length<=300):=⟨h,F,r,by omega⟩;have hrl:=r.len;have hrc:=r.cap;clear h F r V j hlen U hn;go_enter Tryz.func38,Tryz.ntmps38
 go_wp2_with fail
 obtain⟨v,B⟩:∃v,((w.alloc (.cells #[int i64 0,int i64 0,int i64 0,int i64 0,int i64 0,int i64 0,int i64 0,int i64 0,int i64 0,.slice none 0 0,int i64 0,int i64 0,int i64 0,int i64 0,int i64 0] 108)).alloc (.cells #[int i64 y0,int i64 y1,int i64 y2,int i64 y3,int i64 y4,int i64 y5,int i64 y6,int i64 y7,int i64 y8,.slice a n c,int i64 z0,int i64 z1,int i64 z2,int i64 z3,int i64 z4] 108))=v:=⟨_,rfl⟩
 have G:Below w.heap.size w v:=by rw[<-B];exact boxed (boxed (Below.refl _ w) _) _
 have RZ:qag v w.heap.size [int i64 0,int i64 0,int i64 0,int i64 0,int i64 0,int i64 0,int i64 0,int i64 0,int i64 0,.slice none 0 0,int i64 0,int i64 0,int i64 0,int i64 0,int i64 0]:=by rw[<-B];exact(qag.new (w:=w) (T:=108) [int i64 0,int i64 0,int i64 0,int i64 0,int i64 0,int i64 0,int i64 0,int i64 0,int i64 0,.slice none 0 0,int i64 0,int i64 0,int i64 0,int i64 0,int i64 0] rfl).later (boxed (Below.refl _ _) _)
 have RG:qag v (w.heap.size+1) [int i64 y0,int i64 y1,int i64 y2,int i64 y3,int i64 y4,int i64 y5,int i64 y6,int i64 y7,int i64 y8,.slice a n c,int i64 z0,int i64 z1,int i64 z2,int i64 z3,int i64 z4]:=by
  rw[<-B];have:=qag.new (w:=w.alloc (.cells #[int i64 0,int i64 0,int i64 0,int i64 0,int i64 0,int i64 0,int i64 0,int i64 0,int i64 0,.slice none 0 0,int i64 0,int i64 0,int i64 0,int i64 0,int i64 0] 108)) (T:=108) [int i64 y0,int i64 y1,int i64 y2,int i64 y3,int i64 y4,int i64 y5,int i64 y6,int i64 y7,int i64 y8,.slice a n c,int i64 z0,int i64 z1,int i64 z2,int i64 z3,int i64 z4] rfl;simpa using this
 have Y:v.heap.size=w.heap.size+2:=by rw[<-B];simp
 have HV5:Hid _:=D.out.2.2.1.later G;have c45:=cell_later G c4;have f45:=qgk G X hlt
 have l5:b<v.heap.size:=by omega
 have SZ5:Hid _:=Y;rw[B];clear Y B x0 x1 x2 x3 x4 x5 x6 x7 x8 x9 x10 x11 x12 x13 x14 c4 X;refine qmv (q3e v c45 f45 HV5.out J D.out.2.2.2 _ ?_);rintro u13 u14 u15 u16 u17 u18 u19 u20 u21 u22 u23 u24 u25 u26 u27 u28 u29 u30 u31 w8 ⟨p,E,Z,aa,H,ab,L⟩;have ac:Hid (v.heap.size<=p/\p<Z.heap.size):=⟨ab,(L.lt p rfl).2⟩;have N:=qab G H;obtain⟨s,O⟩:∃s,w8=s:=⟨_,rfl⟩
 have C:Z.setCell ⟨b,4,none⟩ (.slice (some ⟨p,0,none⟩) (M.l.eraseIdx i).length E)=s:=by rw[<-O,aa]
 have B8:qag s b [M.sv,M.wv,M.cv,M.av,.slice (some ⟨p,0,none⟩) (M.l.eraseIdx i).length E,int i64 W.lost]:=by rw[<-C];exact(D.out.1.box.later N).set 4 _ (by simp)
 have own9:s.ownsRow 0 108 15 (.slice (some ⟨p,0,none⟩) (M.l.eraseIdx i).length E) (M.l.eraseIdx i).length (qiw (M.l.eraseIdx i)):=by
  rw[<-C];exact qad L (λk e=>Below.heap_setCell _ _ _ _ (λq=>by have P:p=k:=Option.some.inj e;have:=ac.out;simp only at q;omega))
 have o:qag s (w.heap.size+1) [int i64 y0,int i64 y1,int i64 y2,int i64 y3,int i64 y4,int i64 y5,int i64 y6,int i64 y7,int i64 y8,.slice a n c,int i64 z0,int i64 z1,int i64 z2,int i64 z3,int i64 z4]:=by rw[<-C];exact(RG.later H).far _ _ (by simp only;omega)
 have d:qag s w.heap.size [int i64 0,int i64 0,int i64 0,int i64 0,int i64 0,int i64 0,int i64 0,int i64 0,int i64 0,.slice none 0 0,int i64 0,int i64 0,int i64 0,int i64 0,int i64 0]:=by rw[<-C];exact(RZ.later H).far _ _ (by simp only;omega)
 have T8:qae (λk=>k=b) w s:=by rw[<-C];exact(qae.ofBelow N).trans (qae.setCell _ _ _ rfl)
 have y:Hid (qag s b [M.sv,M.wv,M.cv,M.av,.slice (some ⟨p,0,none⟩) (M.l.eraseIdx i).length E,int i64 W.lost]/\s.ownsRow 0 108 15 (.slice (some ⟨p,0,none⟩) (M.l.eraseIdx i).length E) (M.l.eraseIdx i).length (qiw (M.l.eraseIdx i))/\qag s w.heap.size [int i64 0,int i64 0,int i64 0,int i64 0,int i64 0,int i64 0,int i64 0,int i64 0,int i64 0,.slice none 0 0,int i64 0,int i64 0,int i64 0,int i64 0,int i64 0]/\qae (λk=>k=b) w s/\w.heap.size+2<=p):=⟨B8,own9,d,T8,by have:=ac.out;have:=SZ5.out;omega⟩;have g0_:=o.cell 0 _ rfl;have p0_:=d.free 0 (by simp);have s0_:=d.cell 0 _ rfl;have g1_:=o.cell 1 _ rfl;have p1_:=d.free 1 (by simp);have s1_:=d.cell 1 _ rfl;have g2_:=o.cell 2 _ rfl;have p2_:=d.free 2 (by simp);have s2_:=d.cell 2 _ rfl;have g3_:=o.cell 3 _ rfl;have p3_:=d.free 3 (by simp);have s3_:=d.cell 3 _ rfl;have g4_:=o.cell 4 _ rfl;have p4_:=d.free 4 (by simp);have s4_:=d.cell 4 _ rfl;have g5_:=o.cell 5 _ rfl;have p5_:=d.free 5 (by simp);have s5_:=d.cell 5 _ rfl;have g6_:=o.cell 6 _ rfl;have p6_:=d.free 6 (by simp);have s6_:=d.cell 6 _ rfl;have g7_:=o.cell 7 _ rfl;have p7_:=d.free 7 (by simp);have s7_:=d.cell 7 _ rfl;have g8_:=o.cell 8 _ rfl;have p8_:=d.free 8 (by simp);have s8_:=d.cell 8 _ rfl;have g9_:=o.cell 9 _ rfl;have p9_:=d.free 9 (by simp);have s9_:=d.cell 9 _ rfl;have g10_:=o.cell 10 _ rfl;have p10_:=d.free 10 (by simp);have s10_:=d.cell 10 _ rfl;have g11_:=o.cell 11 _ rfl;have p11_:=d.free 11 (by simp);have s11_:=d.cell 11 _ rfl;have g12_:=o.cell 12 _ rfl;have p12_:=d.free 12 (by simp);have s12_:=d.cell 12 _ rfl;have g13_:=o.cell 13 _ rfl;have p13_:=d.free 13 (by simp);have s13_:=d.cell 13 _ rfl;have g14_:=o.cell 14 _ rfl;have p14_:=d.free 14 (by simp);have s14_:=d.cell 14 _ rfl;rw[O];clear O C aa L B8 own9 o d T8 N H ab;have hbl:=D.out.1.box.lt;have Q:=And.intro (qzu (l:=[int i64 y0,int i64 y1,int i64 y2,int i64 y3,int i64 y4,int i64 y5,int i64 y6,int i64 y7,int i64 y8,.slice a n c,int i64 z0,int i64 z1,int i64 z2,int i64 z3,int i64 z4]) y.out.2.2.1 rfl) (And.intro (D.out.1.outed (i:=i) (qni y.out.2.2.2.1 (Nat.le_refl _) [int i64 y0,int i64 y1,int i64 y2,int i64 y3,int i64 y4,int i64 y5,int i64 y6,int i64 y7,int i64 y8,.slice a n c,int i64 z0,int i64 z1,int i64 z2,int i64 z3,int i64 z4]) (y.out.1.kept (qg6 (by omega) _ _ _) (by rw[(qla _ _ _).2.2.2];exact Nat.le_refl _)) (qad y.out.2.1 (λk e=>qg6 (by have P:p=k:=Option.some.inj e;have:=y.out.2.2.2.2;omega) _ _ _)) (λk e=>by have P:p=k:=Option.some.inj e;have:=y.out.2.2.2.2;omega)) (qni y.out.2.2.2.1 (Nat.le_refl _) [int i64 y0,int i64 y1,int i64 y2,int i64 y3,int i64 y4,int i64 y5,int i64 y6,int i64 y7,int i64 y8,.slice a n c,int i64 z0,int i64 z1,int i64 z2,int i64 z3,int i64 z4]))
 simp only[qjn]at Q;have R:Hid _:=Q;clear Q hbl
 go_wp2_with fail
 (try simp only[Exit.inBlock,Exit.then])
 refine bodyPost_ret (qv1 R.out.1 rfl) rfl ⟨rfl,_,R.out.2.1,λk e=>?_,R.out.2.2⟩;have P:p=k:=Option.some.inj e;have:=y.out.2.2.2.2;omega
end
section
open Go.Value Go.IntKind Go.RowKit
theorem qf3 {site seq wall count d0 d1 d2 d3:Int} {a:Option Addr} {cap:Nat} {l:List Wr} {w:World} {v:Bool} (b:qaz w a cap l) (h:qdf site seq wall count d0 d1 d2 d3 l=v):
 Calls Tryz.prog 128 #[.agg #[int i64 site,int i64 seq,int i64 wall,int i64 count,int i64 d0,int i64 d1,int i64 d2,int i64 d3,.slice a l.length cap]] w λe w'=>e=.returned (.bool v)/\Below w.heap.size w w':=by
 subst h;exact qp8 site seq wall count d0 d1 d2 d3 a cap l w b
theorem qzf {b:Nat} {G:Nat->Prop} {F:Nat->Option Obj} {S:qaf} (m:TxM) (w:World) (h:RS w b G F S) (hI:qcx S) (hn:S.waits.length<=900) (hW:qaz w m.wa m.wc m.t.ws) (hnz:qa8 S m.t≠0):
 Calls Tryz.prog 84 #[.pointer (some ⟨b,0,none⟩),txV m] w λe w'=>e=.returned (int i64 (qa8 S m.t))/\∃S',qb8 S m.t S'/\RPo w b G F S' w':=by
 obtain⟨⟨site,seq,wall,count,d0,d1,d2,d3,ws⟩,a,cap⟩:=m;simp only at hW hnz ⊢;have HNZ:Hid (qa8 S ⟨site,seq,wall,count,d0,d1,d2,d3,ws⟩≠0):=hnz;clear hnz;have hb:=boxed (Below.refl _ w) (.cells #[int i64 site,int i64 seq,int i64 wall,int i64 count,int i64 d0,int i64 d1,int i64 d2,int i64 d3,.slice a ws.length cap] 102);have v:=qag.new (w:=w) (T:=102) [int i64 site,int i64 seq,int i64 wall,int i64 count,int i64 d0,int i64 d1,int i64 d2,int i64 d3,.slice a ws.length cap] rfl;change qag (w.alloc (.cells #[int i64 site,int i64 seq,int i64 wall,int i64 count,int i64 d0,int i64 d1,int i64 d2,int i64 d3,.slice a ws.length cap] 102)) w.heap.size [int i64 site,int i64 seq,int i64 wall,int i64 count,int i64 d0,int i64 d1,int i64 d2,int i64 d3,.slice a ws.length cap]at v;have hne:=Later.one;have P1:=h.later hb;have W1:=hW.later hb
 have NO:∀c ev,qa8 S ⟨site,seq,wall,count,d0,d1,d2,d3,ws⟩=ev->ev≠0->Below w.heap.size w c->Hid ((.returned (int i64 ev):Ending)=.returned (int i64 (qa8 S ⟨site,seq,wall,count,d0,d1,d2,d3,ws⟩))/\∃S',qb8 S ⟨site,seq,wall,count,d0,d1,d2,d3,ws⟩ S'/\RPo w b G F S' c):=λc ev e1 e2 e3=>by
  show _/\_;rw[e1];exact⟨rfl,S,.inl ⟨by rw[e1];exact e2,rfl⟩,RPo.same h e3⟩
 clear h hW;show Calls Tryz.prog 84 #[.pointer (some ⟨b,0,none⟩),.agg #[int i64 site,int i64 seq,int i64 wall,int i64 count,int i64 d0,int i64 d1,int i64 d2,int i64 d3,.slice a ws.length cap]] w _;obtain⟨lv,wv,sv,log,waits,Z,hl,hw,hG,hF⟩:=id P1;obtain⟨P,lc,rfl,hLT⟩:=qbl Z.rlog;obtain⟨M,Q,rfl,hVT⟩:=qbl Z.rwait;have k0:=Later.cell (Z.box.cell 0 _ rfl);have t0:=Later.cell (v.cell 0 _ rfl);have U:=Later.cell (v.cell 1 _ rfl);have t2:=Later.cell (v.cell 2 _ rfl);have t3:=Later.cell (v.cell 3 _ rfl);have t4:=Later.cell (v.cell 4 _ rfl);have t5:=Later.cell (v.cell 5 _ rfl);have t6:=Later.cell (v.cell 6 _ rfl);have t7:=Later.cell (v.cell 7 _ rfl);have t8:=Later.cell (v.cell 8 _ rfl);cases hok:okT ⟨site,seq,wall,count,d0,d1,d2,d3,ws⟩
 ·have HK:Hid (qdf site seq wall count d0 d1 d2 d3 ws=false):=hok
  have E:qa8 S ⟨site,seq,wall,count,d0,d1,d2,d3,ws⟩=1:=by unfold qa8;rw[if_pos hok]
  have g:=λc d=>NO c 1 E (by decide) d;clear E NO hok Z hl hw hG P1 hI;go_enter Tryz.func84,Tryz.ntmps84
  go_wp2_with fail
  refine qaa (by kernel_rfl) (by kernel_rfl) ?_
  repeat (go_big_quiet_step (first|rfl|(go_at_call 128;with_reducible exact qac (qf3 (W1.later (Later.below _)) HK.out))))
  refine wpQuiet_nil ?_;rintro w2 ⟨⟨_,R⟩,rfl⟩
  go_wp2_with fail
  go_ret;exact(g _ (qab hb R)).out
 ·have HK:Hid (qdf site seq wall count d0 d1 d2 d3 ws=true):=hok;obtain⟨⟨s0,s3⟩,⟨sq1,sq2⟩,sw⟩:=qei hok;simp only at s0 s3 sq1 sq2 sw;have HOK:Hid (okT ⟨site,seq,wall,count,d0,d1,d2,d3,ws⟩=true):=hok;clear hok;by_cases V:site=S.id
  ·have E:qa8 S ⟨site,seq,wall,count,d0,d1,d2,d3,ws⟩=1:=by unfold qa8;rw[if_neg (by rw[HOK.out];decide),if_pos V]
   have g:=λc d=>NO c 1 E (by decide) d
   have i1:(site==S.id)=true:=by simp[V]
   have i2:decide (site=S.id)=true:=by simp[V]
   clear E NO Z hl hw hG P1 hI V;go_enter Tryz.func84,Tryz.ntmps84
   go_wp2_with fail
   refine qaa (by kernel_rfl) (by kernel_rfl) ?_
   repeat (go_big_quiet_step (first|rfl|(go_at_call 128;with_reducible exact qac (qf3 (W1.later (Later.below _)) HK.out))))
   refine wpQuiet_nil ?_;rintro w2 ⟨⟨_,R⟩,rfl⟩
   go_wp2_with fail
   go_ret;exact(g _ (qab hb R)).out
  ·have i1:(site==S.id)=false:=by simp[V]
   have i2:decide (site=S.id)=false:=by simp[V]
   have HID:Hid (¬site=S.id):=V;have aa:Hid (qco (w.alloc (.cells #[int i64 site,int i64 seq,int i64 wall,int i64 count,int i64 d0,int i64 d1,int i64 d2,int i64 d3,.slice a ws.length cap] 102)) b (.slice P log.length lc) (.slice M waits.length Q) sv S log waits/\log.map (·.t)=S.log/\waits.map (·.t)=S.waits/\∀k,G k↔(qas b (.slice P log.length lc) (.slice M waits.length Q) sv k\/∃m∈log++waits,m.blk k)):=⟨Z,hl,hw,hG⟩;have HI:Hid (qcx S):=hI;have q:Hid (∀c ev,qa8 S ⟨site,seq,wall,count,d0,d1,d2,d3,ws⟩=ev->ev≠0->Below w.heap.size w c->Hid ((.returned (int i64 ev):Ending)=.returned (int i64 (qa8 S ⟨site,seq,wall,count,d0,d1,d2,d3,ws⟩))/\∃S',qb8 S ⟨site,seq,wall,count,d0,d1,d2,d3,ws⟩ S'/\RPo w b G F S' c)):=NO;have HVT:Hid (qew (w.alloc (.cells #[int i64 site,int i64 seq,int i64 wall,int i64 count,int i64 d0,int i64 d1,int i64 d2,int i64 d3,.slice a ws.length cap] 102)) M Q waits/\qew (w.alloc (.cells #[int i64 site,int i64 seq,int i64 wall,int i64 count,int i64 d0,int i64 d1,int i64 d2,int i64 d3,.slice a ws.length cap] 102)) P lc log):=⟨hVT,hLT⟩;have hvl:=hVT.len;have hvc:=hVT.cap;have hll:=hLT.len;have hlc:=hLT.cap;clear NO Z hl hw hG P1 hI V hVT hLT;go_enter Tryz.func84,Tryz.ntmps84
   go_wp2_with fail
   refine qaa (by kernel_rfl) (by kernel_rfl) ?_
   repeat (go_big_quiet_step (first|rfl|(go_at_call 128;with_reducible exact qac (qf3 (W1.later (Later.below _)) HK.out))))
   refine wpQuiet_nil ?_;rintro w2 ⟨⟨_,R⟩,rfl⟩;clear t0 U t2 t3 t4 t5 t6 t7 t8 k0;have PM2:Hid (qco w2 b (.slice P log.length lc) (.slice M waits.length Q) sv S log waits):=aa.out.1.later R;have RB2:=v.later R;have hbw:=qab hb R;have HB2:Hid (Below (w.alloc (.cells #[int i64 site,int i64 seq,int i64 wall,int i64 count,int i64 d0,int i64 d1,int i64 d2,int i64 d3,.slice a ws.length cap] 102)).heap.size (w.alloc (.cells #[int i64 site,int i64 seq,int i64 wall,int i64 count,int i64 d0,int i64 d1,int i64 d2,int i64 d3,.slice a ws.length cap] 102)) w2):=R;clear v hb R;have t0:=Later.cell (RB2.cell 0 _ rfl);have U:=Later.cell (RB2.cell 1 _ rfl);have ks:=Later.cell (qmy PM2.out.box s0 s3)
   have s4:site<4:=by omega
   obtain⟨D,hD⟩:∃D,qaq site S.a0 S.a1 S.a2 S.a3=D:=⟨_,rfl⟩;have HD:Hid (qaq site S.a0 S.a1 S.a2 S.a3=D):=hD;rw[hD]at ks;clear hD;by_cases hle:seq<=D
   ·have E:qa8 S ⟨site,seq,wall,count,d0,d1,d2,d3,ws⟩=9:=by unfold qa8;rw[if_neg (by rw[HOK.out];decide),if_neg HID.out,if_pos (by rw[HD.out];exact hle)]
    have g:=λc d=>q.out c 9 E (by decide) d;clear E q aa HI
    go_wp2_with fail
    refine qaa (by kernel_rfl) (by kernel_rfl) ?_
    repeat (go_big_quiet_step (first|rfl|fail))
    refine wpQuiet_nil ?_;rintro w3 ⟨⟨_,hb3⟩,rfl⟩
    go_wp2_with fail
    go_ret;exact(g _ (qab hbw hb3)).out
   ·have HLE:Hid (D<seq):=by show _<_;omega
    have q1:decide (seq<=D)=false:=decide_eq_false hle;clear hle
    go_wp2_with fail
    refine qaa (by kernel_rfl) (by kernel_rfl) ?_
    repeat (go_big_quiet_step (first|rfl|fail))
    refine wpQuiet_nil ?_;rintro w3 ⟨⟨_,hb3⟩,rfl⟩;have PM3:Hid (qco w3 b (.slice P log.length lc) (.slice M waits.length Q) sv S log waits):=PM2.out.later hb3;have RB3:Hid (qag w3 w.heap.size [int i64 site,int i64 seq,int i64 wall,int i64 count,int i64 d0,int i64 d1,int i64 d2,int i64 d3,.slice a ws.length cap]):=RB2.later hb3;have hbw3:=qab hbw hb3;have HB3:Hid (Below (w.alloc (.cells #[int i64 site,int i64 seq,int i64 wall,int i64 count,int i64 d0,int i64 d1,int i64 d2,int i64 d3,.slice a ws.length cap] 102)).heap.size (w.alloc (.cells #[int i64 site,int i64 seq,int i64 wall,int i64 count,int i64 d0,int i64 d1,int i64 d2,int i64 d3,.slice a ws.length cap] 102)) w3):=qab HB2.out hb3;clear RB2 hbw hb3 t0 U ks PM2 HB2;have s8:=PM3.out.box.cell 8 _ rfl
    go_wp2_with fail
    go_loopw [39] (λiv wr=>∃(k:Nat) (z:Int),k<=waits.length/\z=k/\iv=int i64 z/\Hid (∀j x,j<k->waits[j]?=some x->qcl x.t ⟨site,seq,wall,count,d0,d1,d2,d3,ws⟩=false)/\Below w3.heap.size w3 wr) (λi _=>waits.length-(intOf i).toNat)
    case atStart=>exact⟨0,0,by omega,rfl,rfl,(λj x hj=>by omega),Below.refl _ _⟩
    case round=>
     obtain⟨k,z,hk,hz,rfl,HNM,N⟩:=hrel;have HZ:Hid (z=k):=hz;by_cases hlt:k<waits.length
     ·have g1:z<(waits.length:Int):=by omega
      have g2:z.toNat=k:=by omega
      have g3:0<=z:=by omega
      clear hz
      obtain⟨wb,off,hwa,hcc⟩:∃wb off,M=some ⟨wb,off,none⟩/\∀i m r u,waits[i]?=some m->(txC m)[r]?=some u->(w.alloc (.cells #[int i64 site,int i64 seq,int i64 wall,int i64 count,int i64 d0,int i64 d1,int i64 d2,int i64 d3,.slice a ws.length cap] 102)).cell? ⟨wb,off+(i*9+r),none⟩=some u:=by
          rcases HVT.out.1.held with e|e
          ·rw[e]at hlt;simp at hlt
          ·exact e
      obtain⟨⟨⟨xs,xq,xw,xc,y0,y1,y2,y3,yw⟩,ya,yc⟩,l⟩:∃m,waits[k]?=some m:=⟨waits[k],List.getElem?_eq_getElem hlt⟩;have HX:Hid (waits[k]?=some ⟨⟨xs,xq,xw,xc,y0,y1,y2,y3,yw⟩,ya,yc⟩):=l;have O:=λr u (hu:(txC ⟨⟨xs,xq,xw,xc,y0,y1,y2,y3,yw⟩,ya,yc⟩)[r]?=some u)=>(show wr.cell? ⟨wb,off+k*9+r,none⟩=some u by rw[Nat.add_assoc];exact cell_later (qab HB3.out N) (hcc k _ r u l hu));have x0:=O 0 _ rfl;have x1:=O 1 _ rfl;have x2:=O 2 _ rfl;have x3:=O 3 _ rfl;have x4:=O 4 _ rfl;have x5:=O 5 _ rfl;have x6:=O 6 _ rfl;have x7:=O 7 _ rfl;have x8:=O 8 _ rfl;rw[Nat.add_zero]at x0;have n:=RB3.out.later N;have t0:=n.cell 0 _ rfl;have U:=n.cell 1 _ rfl;have lt0:=n.lt;rw[hwa];clear O hcc l n;by_cases hs:xs=site
      ·by_cases s:xq=seq
       ·have e1:(xs==site)=true:=by simp[hs]
        have e2:(xq==seq)=true:=by simp[s]
        have E:qa8 S ⟨site,seq,wall,count,d0,d1,d2,d3,ws⟩=9:=by
              unfold qa8;rw[if_neg (by rw[HOK.out];decide),if_neg HID.out,if_neg (by rw[HD.out];have:=HLE.out;simp only;omega),if_pos];rw[<-aa.out.2.2.1];exact List.any_eq_true.2 ⟨_,List.mem_map.2 ⟨_,List.mem_of_getElem? HX.out,rfl⟩,qgm.2 ⟨hs,s⟩⟩
        have g:=λc d=>q.out c 9 E (by decide) d;have d:=qab hbw3 N;clear E q aa HI hs s HX hwa
        go_wp2_with fail
        go_ret;exact(g _ (boxed d _)).out
       ·have e1:(xs==site)=true:=by simp[hs]
        have e2:(xq==seq)=false:=by simp[s]
        have HNQ:Hid (qcl ⟨xs,xq,xw,xc,y0,y1,y2,y3,yw⟩ ⟨site,seq,wall,count,d0,d1,d2,d3,ws⟩=false):=by show _=_;simp[qcl,s]
        clear hs s hwa
        go_wp2_with fail
        go_roundw
        case rel=>exact⟨k+1,z+1,by omega,by have:=HZ.out;omega,by go_num,(λj x hj l=>by
              rcases Nat.lt_or_ge j k with h1|h1
              ·exact HNM.out j x h1 l
              ·have:j=k:=by omega
               subst this;rw[HX.out]at l;injection l with l;subst l
               exact HNQ.out),boxed N _⟩
        case measure=>simp[intOf];have:=HZ.out;omega
      ·have e1:(xs==site)=false:=by simp[hs]
       have HNQ:Hid (qcl ⟨xs,xq,xw,xc,y0,y1,y2,y3,yw⟩ ⟨site,seq,wall,count,d0,d1,d2,d3,ws⟩=false):=by show _=_;simp[qcl,hs]
       clear hs hwa
       go_wp2_with fail
       go_roundw
       case rel=>exact⟨k+1,z+1,by omega,by have:=HZ.out;omega,by go_num,(λj x hj l=>by
           rcases Nat.lt_or_ge j k with h1|h1
           ·exact HNM.out j x h1 l
           ·have:j=k:=by omega
            subst this;rw[HX.out]at l;injection l with l;subst l
            exact HNQ.out),boxed N _⟩
       case measure=>simp[intOf];have:=HZ.out;omega
     ·have g1:¬z<(waits.length:Int):=by omega
      have HNA:Hid (∀x∈waits,qcl x.t ⟨site,seq,wall,count,d0,d1,d2,d3,ws⟩=false):=λx l=>by
          obtain⟨j,hj⟩:=List.getElem?_of_mem l;exact HNM.out j x (by have:=(List.getElem?_eq_some_iff.1 hj).1;omega) hj
      clear hz HNM;have C:Hid (qco wr b (.slice P log.length lc) (.slice M waits.length Q) sv S log waits):=PM3.out.later N;have n:Hid (qag wr w.heap.size [int i64 site,int i64 seq,int i64 wall,int i64 count,int i64 d0,int i64 d1,int i64 d2,int i64 d3,.slice a ws.length cap]):=RB3.out.later N;have hbwr:=qab hbw3 N;have HBr:Hid (Below (w.alloc (.cells #[int i64 site,int i64 seq,int i64 wall,int i64 count,int i64 d0,int i64 d1,int i64 d2,int i64 d3,.slice a ws.length cap] 102)).heap.size (w.alloc (.cells #[int i64 site,int i64 seq,int i64 wall,int i64 count,int i64 d0,int i64 d1,int i64 d2,int i64 d3,.slice a ws.length cap] 102)) wr):=qab HB3.out N;clear hbw3 N PM3 RB3 HB3 s8 hk;have t0:=Later.cell (n.out.cell 0 _ rfl);have U:=Later.cell (n.out.cell 1 _ rfl);have t4:=Later.cell (n.out.cell 4 _ rfl);have t5:=Later.cell (n.out.cell 5 _ rfl);have t6:=Later.cell (n.out.cell 6 _ rfl);have t7:=Later.cell (n.out.cell 7 _ rfl);have ks:=Later.cell (qmy C.out.box s0 s3);have k1:=Later.cell (C.out.box.cell 1 _ rfl);have k2:=Later.cell (C.out.box.cell 2 _ rfl);have k3:=Later.cell (C.out.box.cell 3 _ rfl);have k4:=Later.cell (C.out.box.cell 4 _ rfl);rw[HD.out]at ks;have hdd:=HI.out.dep site;rw[HD.out]at hdd;have hwr:=qfq hdd
      have hlw:waits.length=S.waits.length:=by rw[<-aa.out.2.2.1];simp
      have hlg:log.length=S.log.length:=by rw[<-aa.out.2.1];simp
      have HLN:Hid (waits.length=S.waits.length/\log.length=S.log.length/\S.waits.length<=900):=⟨hlw,hlg,hn⟩
      have HRE:Hid (qau S ⟨site,seq,wall,count,d0,d1,d2,d3,ws⟩=(decide (seq=D+1)&&qfu S.a0 S.a1 S.a2 S.a3 d0 d1 d2 d3)):=by show qau S ⟨site,seq,wall,count,d0,d1,d2,d3,ws⟩=_;unfold qau;rw[HD.out]
      have HAN:Hid (S.waits.any (λx=>qcl x ⟨site,seq,wall,count,d0,d1,d2,d3,ws⟩)=false):=by
          show _=_;rw[<-aa.out.2.2.1,List.any_eq_false];intro x l;obtain⟨y,hy,rfl⟩:=List.mem_map.1 l;rw[HNA.out y hy]
          decide
      have B:Hid (qa8 S ⟨site,seq,wall,count,d0,d1,d2,d3,ws⟩=if 200<=log.length then 12 else if 40<=waits.length/\qau S ⟨site,seq,wall,count,d0,d1,d2,d3,ws⟩=false then 12 else 0):=by
          show qa8 S ⟨site,seq,wall,count,d0,d1,d2,d3,ws⟩=_;unfold qa8;rw[if_neg (by rw[HOK.out];decide),if_neg HID.out,if_neg (by rw[HD.out];have:=HLE.out;simp only;omega),if_neg (by rw[HAN.out];decide),HLN.out.1,HLN.out.2.1]
      clear hn hdd hlw hlg;by_cases s:seq=D+1
      ·have q2:(seq==D+1)=true:=by simp[s]
       have HQ:Hid (seq=D+1):=s;clear s;cases hc:qfu S.a0 S.a1 S.a2 S.a3 d0 d1 d2 d3
       ·have HC:Hid (qfu S.a0 S.a1 S.a2 S.a3 d0 d1 d2 d3=false):=hc
        have W:Hid (qau S ⟨site,seq,wall,count,d0,d1,d2,d3,ws⟩=false):=by show _=_;rw[HRE.out,hc];simp
        clear hc
        go_wp2_with fail
        refine qaa (by kernel_rfl) (by kernel_rfl) ?_
        repeat (go_big_quiet_step (first|rfl|(go_at_call 77;with_reducible exact qac (qbj HC.out _))))
        refine wpQuiet_nil ?_;rintro H ⟨⟨_,o⟩,rfl⟩;clear HQ HC q2;have X:Hid (qco H b (.slice P log.length lc) (.slice M waits.length Q) sv S log waits):=C.out.later o;have RB4:Hid (qag H w.heap.size [int i64 site,int i64 seq,int i64 wall,int i64 count,int i64 d0,int i64 d1,int i64 d2,int i64 d3,.slice a ws.length cap]):=n.out.later o;have Y:=qab hbwr o;have HB4:Hid (Below (w.alloc (.cells #[int i64 site,int i64 seq,int i64 wall,int i64 count,int i64 d0,int i64 d1,int i64 d2,int i64 d3,.slice a ws.length cap] 102)).heap.size (w.alloc (.cells #[int i64 site,int i64 seq,int i64 wall,int i64 count,int i64 d0,int i64 d1,int i64 d2,int i64 d3,.slice a ws.length cap] 102)) H):=qab HBr.out o;clear hbwr o C n HBr t0 U t4 t5 t6 t7 ks k1 k2 k3 k4;have s7:=X.out.box.cell 7 _ rfl;have s8:=X.out.box.cell 8 _ rfl;by_cases I:200<=log.length
        ·have E:qa8 S ⟨site,seq,wall,count,d0,d1,d2,d3,ws⟩=12:=by rw[B.out,if_pos I]
         have g:=λc d=>q.out c 12 E (by decide) d
         have h2:(200:Int)<=(log.length:Int):=by omega
         clear E q I
         go_wp2_with fail
         go_ret;exact(g _ Y).out
        ·have h2:¬(200:Int)<=(log.length:Int):=by omega
         have J:Hid (log.length<200):=by show _<_;omega
         clear I;by_cases p:40<=waits.length
         ·have g40:(40:Int)<=(waits.length:Int):=by omega
          first
              |(have K:Hid (qau S ⟨site,seq,wall,count,d0,d1,d2,d3,ws⟩=false):=W
                have E:qa8 S ⟨site,seq,wall,count,d0,d1,d2,d3,ws⟩=12:=by rw[B.out,if_neg (by have:=J.out;omega),if_pos ⟨p,K.out⟩]
                have g:=λc d=>q.out c 12 E (by decide) d;clear E q p
                go_wp2_with fail
                go_ret
                exact(g _ Y).out)
              |(have K:Hid (qau S ⟨site,seq,wall,count,d0,d1,d2,d3,ws⟩=true):=W
                have L:Hid (qa8 S ⟨site,seq,wall,count,d0,d1,d2,d3,ws⟩=0):=by show _=_;rw[B.out,if_neg (by have:=J.out;omega),if_neg (λe=>by rw[K.out]at e;cases e.2)]
                clear p
                exact absurd L.out HNZ.out)
         ·have g40:¬(40:Int)<=(waits.length:Int):=by omega
          have L:Hid (qa8 S ⟨site,seq,wall,count,d0,d1,d2,d3,ws⟩=0):=by show _=_;rw[B.out,if_neg (by have:=J.out;omega),if_neg (λe=>p e.1)]
          clear p;exact absurd L.out HNZ.out
       ·have HC:Hid (qfu S.a0 S.a1 S.a2 S.a3 d0 d1 d2 d3=true):=hc
        have W:Hid (qau S ⟨site,seq,wall,count,d0,d1,d2,d3,ws⟩=true):=by show _=_;rw[HRE.out,hc,HQ.out];simp
        clear hc
        go_wp2_with fail
        refine qaa (by kernel_rfl) (by kernel_rfl) ?_
        repeat (go_big_quiet_step (first|rfl|(go_at_call 77;with_reducible exact qac (qbj HC.out _))))
        refine wpQuiet_nil ?_;rintro H ⟨⟨_,o⟩,rfl⟩;clear HQ HC q2;have X:Hid (qco H b (.slice P log.length lc) (.slice M waits.length Q) sv S log waits):=C.out.later o;have RB4:Hid (qag H w.heap.size [int i64 site,int i64 seq,int i64 wall,int i64 count,int i64 d0,int i64 d1,int i64 d2,int i64 d3,.slice a ws.length cap]):=n.out.later o;have Y:=qab hbwr o;have HB4:Hid (Below (w.alloc (.cells #[int i64 site,int i64 seq,int i64 wall,int i64 count,int i64 d0,int i64 d1,int i64 d2,int i64 d3,.slice a ws.length cap] 102)).heap.size (w.alloc (.cells #[int i64 site,int i64 seq,int i64 wall,int i64 count,int i64 d0,int i64 d1,int i64 d2,int i64 d3,.slice a ws.length cap] 102)) H):=qab HBr.out o;clear hbwr o C n HBr t0 U t4 t5 t6 t7 ks k1 k2 k3 k4;have s7:=X.out.box.cell 7 _ rfl;have s8:=X.out.box.cell 8 _ rfl;by_cases I:200<=log.length
        ·have E:qa8 S ⟨site,seq,wall,count,d0,d1,d2,d3,ws⟩=12:=by rw[B.out,if_pos I]
         have g:=λc d=>q.out c 12 E (by decide) d
         have h2:(200:Int)<=(log.length:Int):=by omega
         clear E q I
         go_wp2_with fail
         go_ret;exact(g _ Y).out
        ·have h2:¬(200:Int)<=(log.length:Int):=by omega
         have J:Hid (log.length<200):=by show _<_;omega
         clear I;by_cases p:40<=waits.length
         ·have g40:(40:Int)<=(waits.length:Int):=by omega
          first
              |(have K:Hid (qau S ⟨site,seq,wall,count,d0,d1,d2,d3,ws⟩=false):=W
                have E:qa8 S ⟨site,seq,wall,count,d0,d1,d2,d3,ws⟩=12:=by rw[B.out,if_neg (by have:=J.out;omega),if_pos ⟨p,K.out⟩]
                have g:=λc d=>q.out c 12 E (by decide) d;clear E q p
                go_wp2_with fail
                go_ret
                exact(g _ Y).out)
              |(have K:Hid (qau S ⟨site,seq,wall,count,d0,d1,d2,d3,ws⟩=true):=W
                have L:Hid (qa8 S ⟨site,seq,wall,count,d0,d1,d2,d3,ws⟩=0):=by show _=_;rw[B.out,if_neg (by have:=J.out;omega),if_neg (λe=>by rw[K.out]at e;cases e.2)]
                clear p
                exact absurd L.out HNZ.out)
         ·have g40:¬(40:Int)<=(waits.length:Int):=by omega
          have L:Hid (qa8 S ⟨site,seq,wall,count,d0,d1,d2,d3,ws⟩=0):=by show _=_;rw[B.out,if_neg (by have:=J.out;omega),if_neg (λe=>p e.1)]
          clear p;exact absurd L.out HNZ.out
      ·have q2:(seq==D+1)=false:=by simp[s]
       have W:Hid (qau S ⟨site,seq,wall,count,d0,d1,d2,d3,ws⟩=false):=by show _=_;rw[HRE.out];simp[s]
       clear s
       go_wp2_with fail
       refine qaa (by kernel_rfl) (by kernel_rfl) ?_
       repeat (go_big_quiet_step (first|rfl|fail))
       refine wpQuiet_nil ?_;rintro H ⟨⟨_,o⟩,rfl⟩;clear q2;have X:Hid (qco H b (.slice P log.length lc) (.slice M waits.length Q) sv S log waits):=C.out.later o;have RB4:Hid (qag H w.heap.size [int i64 site,int i64 seq,int i64 wall,int i64 count,int i64 d0,int i64 d1,int i64 d2,int i64 d3,.slice a ws.length cap]):=n.out.later o;have Y:=qab hbwr o;have HB4:Hid (Below (w.alloc (.cells #[int i64 site,int i64 seq,int i64 wall,int i64 count,int i64 d0,int i64 d1,int i64 d2,int i64 d3,.slice a ws.length cap] 102)).heap.size (w.alloc (.cells #[int i64 site,int i64 seq,int i64 wall,int i64 count,int i64 d0,int i64 d1,int i64 d2,int i64 d3,.slice a ws.length cap] 102)) H):=qab HBr.out o;clear hbwr o C n HBr t0 U t4 t5 t6 t7 ks k1 k2 k3 k4;have s7:=X.out.box.cell 7 _ rfl;have s8:=X.out.box.cell 8 _ rfl;by_cases I:200<=log.length
       ·have E:qa8 S ⟨site,seq,wall,count,d0,d1,d2,d3,ws⟩=12:=by rw[B.out,if_pos I]
        have g:=λc d=>q.out c 12 E (by decide) d
        have h2:(200:Int)<=(log.length:Int):=by omega
        clear E q I
        go_wp2_with fail
        go_ret;exact(g _ Y).out
       ·have h2:¬(200:Int)<=(log.length:Int):=by omega
        have J:Hid (log.length<200):=by show _<_;omega
        clear I;by_cases p:40<=waits.length
        ·have g40:(40:Int)<=(waits.length:Int):=by omega
         first
             |(have K:Hid (qau S ⟨site,seq,wall,count,d0,d1,d2,d3,ws⟩=false):=W
               have E:qa8 S ⟨site,seq,wall,count,d0,d1,d2,d3,ws⟩=12:=by rw[B.out,if_neg (by have:=J.out;omega),if_pos ⟨p,K.out⟩]
               have g:=λc d=>q.out c 12 E (by decide) d;clear E q p
               go_wp2_with fail
               go_ret
               exact(g _ Y).out)
             |(have K:Hid (qau S ⟨site,seq,wall,count,d0,d1,d2,d3,ws⟩=true):=W
               have L:Hid (qa8 S ⟨site,seq,wall,count,d0,d1,d2,d3,ws⟩=0):=by show _=_;rw[B.out,if_neg (by have:=J.out;omega),if_neg (λe=>by rw[K.out]at e;cases e.2)]
               clear p
               exact absurd L.out HNZ.out)
        ·have g40:¬(40:Int)<=(waits.length:Int):=by omega
         have L:Hid (qa8 S ⟨site,seq,wall,count,d0,d1,d2,d3,ws⟩=0):=by show _=_;rw[B.out,if_neg (by have:=J.out;omega),if_neg (λe=>p e.1)]
         clear p;exact absurd L.out HNZ.out
end
section
open Go.RowKit
def qg2 (S:qaf) (waits:List TxM) (k:Nat) (z:Int):Prop:=
 (z= -1/\∀j x,j<k->waits[j]?=some x->qau S x.t=false)\/
 (∃(i:Nat) (x:TxM),z=i/\i<k/\waits[i]?=some x/\qau S x.t=true/\(∀j y,j<k->waits[j]?=some y->qau S y.t=true->x.t.site<=y.t.site)/\∀j y,j<i->waits[j]?=some y->qau S y.t=true->x.t.site<y.t.site)
theorem q01 (S:qaf) (waits:List TxM):qg2 S waits 0 (-1):=.inl ⟨rfl,λj x h=>by omega⟩
variable {S:qaf} {k:Nat} {z:Int} {x:TxM}
theorem q3i {waits:List TxM} (h:qg2 S waits k z) (l:waits[k]?=some x) (m:qau S x.t=false):qg2 S waits (k+1) z:=by
 have e:∀j y,j<k+1->waits[j]?=some y->qau S y.t=true->j<k:=λj y c a b=>by
  rcases Nat.lt_or_ge j k with d|d
  ·exact d
  ·have:j=k:=by omega
   subst this;rw[l]at a;injection a with a;subst a;rw[m]at b;cases b
 rcases h with ⟨rfl,h⟩|⟨i,y,rfl,d,n,o,p,q⟩
 ·refine .inl ⟨rfl,λj y c a=>?_⟩;cases b:qau S y.t with
  |false=>rfl
  |true=>rw[<-b];exact h j y (e j y c a b) a
 ·exact .inr ⟨i,y,rfl,by omega,n,o,λj u c f g=>p j u (e j u c f g) f g,q⟩
theorem q0b {waits:List TxM} (h:qg2 S waits k (-1)) (c:waits[k]?=some x) (g:qau S x.t=true):qg2 S waits (k+1) k:=by
 rcases h with ⟨_,h⟩|⟨i,y,e,_⟩
 ·refine .inr ⟨k,x,rfl,by omega,c,g,λj y d a b=>?_,λj y d a b=>?_⟩
  ·rcases Nat.lt_or_ge j k with f|f
   ·rw[h j y f a]at b;cases b
   ·have:j=k:=by omega
    subst this;rw[c]at a;injection a with a;rw[a];exact Int.le_refl _
  ·rw[h j y d a]at b;cases b
 ·omega
theorem jbb {waits:List TxM} (h:qg2 S waits k z) (c:0<=z):∃(i:Nat) (x:TxM),z=i/\i<k/\waits[i]?=some x:=by
 rcases h with ⟨e,_⟩|⟨i,x,e,a,b,_⟩
 ·omega
 ·exact⟨i,x,e,a,b⟩
variable {i:Nat} {y:TxM}
theorem q3x {waits:List TxM} (h:qg2 S waits k i) (m:waits[i]?=some y) (d:waits[k]?=some x) (n:qau S x.t=true) (p:x.t.site<y.t.site):qg2 S waits (k+1) k:=by
 rcases h with ⟨e,_⟩|⟨o,q,e,r,b,s,f,v⟩
 ·omega
 ·have:o=i:=by omega
  subst this;rw[m]at b;injection b with b;subst b;refine .inr ⟨k,x,rfl,by omega,d,n,λj u g a c=>?_,λj u g a c=>?_⟩
  ·rcases Nat.lt_or_ge j k with l|l
   ·have:=f j u l a c;omega
   ·have:j=k:=by omega
    subst this;rw[d]at a;injection a with a;rw[a];exact Int.le_refl _
  ·have:=f j u g a c;omega
theorem q5v {waits:List TxM} (h:qg2 S waits k i) (c:waits[i]?=some y) (g:waits[k]?=some x) (p:¬x.t.site<y.t.site):qg2 S waits (k+1) i:=by
 rcases h with ⟨e,_⟩|⟨d,q,e,r,b,l,m,n⟩
 ·omega
 ·have:d=i:=by omega
  subst this;rw[c]at b;injection b with b;subst b;refine .inr ⟨d,y,rfl,by omega,c,l,λj u s a o=>?_,n⟩;rcases Nat.lt_or_ge j k with f|f
  ·exact m j u f a o
  ·have:j=k:=by omega
   subst this;rw[g]at a;injection a with a;rw[<-a];omega
theorem qrb {α:Type} {p:α->Bool}:∀{l:List α} {i:Nat} {x:α},l[i]?=some x->p x=true->(∀j y,j<i->l[j]?=some y->p y=false)->l.find? p=some x
 |[],_,_,h,_,_=>by simp at h
 |a::l,0,x,h,hp,_=>by
  simp at h;subst h;simp[hp]
 |a::l,i+1,x,h,hp,hn=>by
  have b:=hn 0 a (by omega) rfl;rw[List.find?_cons,b];exact qrb (l:=l) (i:=i) (by simpa using h) hp (λj y d c=>hn (j+1) y (by omega) (by simpa using c))
theorem q8u {waits:List TxM} (h:qg2 S waits waits.length z) (f:waits.map (·.t)=S.waits) (hs:∀x∈S.waits,0<=x.site/\x.site<=3):
 (z= -1/\qht S=none)\/∃(i:Nat) (x:TxM),z=i/\waits[i]?=some x/\qht S=some x.t:=by
 rcases h with ⟨rfl,h⟩|⟨i,x,rfl,w,l,q,r,u⟩
 ·have no:∀s,qe6 S s=none:=λs=>qk0 (λt b _=>by
   rw[<-f]at b;obtain⟨m,c,rfl⟩:=List.mem_map.1 b;obtain⟨j,a⟩:=List.getElem?_of_mem c
   exact h j m (List.getElem?_eq_some_iff.1 a).1 a)
  exact .inl ⟨rfl,by simp[qht,no]⟩
 ·refine .inr ⟨i,x,rfl,l,?_⟩
  have n:S.waits[i]?=some x.t:=by rw[<-f,List.getElem?_map,l];rfl
  have o:∀j t,S.waits[j]?=some t->∃m,waits[j]?=some m/\m.t=t/\j<waits.length:=λj t a=>by
   rw[<-f,List.getElem?_map]at a;cases c:waits[j]?with
   |none=>rw[c]at a;cases a
   |some m=>
    rw[c]at a;injection a with a;exact⟨m,rfl,a,(List.getElem?_eq_some_iff.1 c).1⟩
  have d:qe6 S x.t.site=some x.t:=by
   refine qrb n (by simp[q]) (λj t a b=>?_);obtain⟨m,g,rfl,p⟩:=o j t b;cases hr:qau S m.t with
   |false=>simp
   |true=>
    have:=u j m a g hr;simp;omega
  have lo:∀s,s<x.t.site->qe6 S s=none:=λs A=>qk0 (λt b B=>by
   obtain⟨j,a⟩:=List.getElem?_of_mem b;obtain⟨m,g,rfl,p⟩:=o j t a;cases hr:qau S m.t with
   |false=>rfl
   |true=>
    have:=r j m p g hr
    omega)
  obtain⟨C,D⟩:=hs x.t (List.mem_of_getElem? n)
  have v:x.t.site=0\/x.t.site=1\/x.t.site=2\/x.t.site=3:=by omega
  unfold qht
  rcases v with e|e|e|e<;>rw[e]at d lo
  ·rw[d]
  ·rw[lo 0 (by omega),d]
  ·rw[lo 0 (by omega),lo 1 (by omega),d]
  ·rw[lo 0 (by omega),lo 1 (by omega),lo 2 (by omega),d]
end
section
open Go.RowKit
structure qu9 (w0:World) (b:Nat) (G:Nat->Prop) (F:Nat->Option Obj) (S0 S:qaf) (wr:World):Prop where
 mem:∃G',RS wr b G' F S/\(∀k,G' k->G k\/w0.heap.size<=k)
 touch:qae G w0 wr
 inv:qcx S
 wn:S.waits.length<=1000
 go:∀X,Goes S X->Goes S0 X
variable {w0 wr:World} {b:Nat} {G:Nat->Prop} {F:Nat->Option Obj} {S0 S:qaf}
theorem qu9.later {w':World} (h:qu9 w0 b G F S0 S wr) (hb:Below wr.heap.size wr w'):qu9 w0 b G F S0 S w':=by
 obtain⟨G',a,c⟩:=h.mem;exact⟨⟨G',a.later hb,c⟩,h.touch.trans (qae.ofBelow hb),h.inv,h.wn,h.go⟩
variable {w:World}
theorem RS.left (h:RS w b G F S):qk6 w b=200-S.log.length:=by
 obtain⟨lv,wv,sv,log,waits,h,a,_,_⟩:=h;obtain⟨c,lc,rfl,d⟩:=qbl h.rlog;unfold qk6;rw[h.box.cell 7 _ rfl,<-a];simp
theorem qu9.done (h:qu9 w0 b G F S0 S wr):RPo w0 b G F S wr:=by
 obtain⟨G',a,c⟩:=h.mem;exact⟨G',a,c,h.touch⟩
variable {lv wv sv:Value}
theorem qco.reset {f:World} {log waits d:List TxM} (h:qco w b lv wv sv S log waits) (hb:Below w.heap.size w f) {g n c:Nat} (v:w.heap.size<=g)
 (own:f.ownsRow 0 102 9 (.slice (some ⟨g,0,none⟩) n c) n (qfi d)) (j:d.length=n) (r:∀m∈d,m∈waits\/(qaz w m.wa m.wc m.t.ws/\∀k,m.blk k->¬qas b lv wv sv k)) (W:List TxP):
 qco (f.setCell ⟨b,8,none⟩ (.slice (some ⟨g,0,none⟩) n c)) b lv (.slice (some ⟨g,0,none⟩) n c) sv {S with waits:=W} log d/\qae (qas b lv wv sv) w (f.setCell ⟨b,8,none⟩ (.slice (some ⟨g,0,none⟩) n c))/\
  ∀k,qas b lv (.slice (some ⟨g,0,none⟩) n c) sv k->qas b lv wv sv k\/w.heap.size<=k:=by
 subst j;have bl:=h.box.lt
 have y:g≠b:=by omega
 have o:∀k,k<w.heap.size->k≠b->(f.setCell ⟨b,8,none⟩ (.slice (some ⟨g,0,none⟩) d.length c)).heap[k]?=w.heap[k]?:=λk l j=>(Below.heap_setCell _ _ _ _ j).trans (hb.block k l);have s:qag (f.setCell ⟨b,8,none⟩ (.slice (some ⟨g,0,none⟩) d.length c)) b (qc5 {S with waits:=W} lv (.slice (some ⟨g,0,none⟩) d.length c) sv):=(h.box.later hb).set 8 _ (by simp[qc5]);have u:(f.setCell ⟨b,8,none⟩ (.slice (some ⟨g,0,none⟩) d.length c)).ownsRow 0 102 9 (.slice (some ⟨g,0,none⟩) d.length c) d.length (qfi d):=qad own (λk e=>Below.heap_setCell _ _ _ _ (by simp[Value.ownBlock]at e;simp only;omega));refine⟨h.rewait (λk l j _=>o k ?_ j) s rfl u (λk e=>by simp[Value.ownBlock]at e;omega) (λm p=>?_),⟨?_,?_,?_,?_,λk l j=>o k l (λe=>j (.inl e))⟩,λk l=>?_⟩
 ·rcases l with a|⟨m,p,a⟩
  ·exact h.lt k a
  ·exact(h.hold m p).1.blk_lt k a
 ·rcases r m p with a|⟨a,q⟩
  ·exact .inl a
  ·refine .inr ⟨a.kept (λk e=>o k (a.blk_lt k e) (λx=>q k e (.inl x))),λk e=>⟨q k e,λx=>?_⟩⟩;have:=a.blk_lt k e;simp[Value.ownBlock]at x;omega
 ·exact hb.os
 ·exact hb.tape
 ·exact hb.output
 ·have:=hb.size;simpa[World.setCell]using this
 ·rcases l with a|a|a|a
  ·exact .inl (.inl a)
  ·exact .inl (.inr (.inl a))
  ·simp[Value.ownBlock]at a;exact .inr (by omega)
  ·exact .inl (.inr (.inr (.inr a)))
variable {w6:World} {G':Nat->Prop} {i:Nat} {m:TxM}
theorem qvw {j:World} {c l n:Value} {log waits:List TxM} (d:qu9 w0 b G F S0 S wr) (A:qco wr b lv wv sv S log waits) (B:qeh wr F log) (C:log.map (·.t)=S.log) (p:waits.map (·.t)=S.waits)
 (q:∀k,G' k↔(qas b lv wv sv k\/∃m∈log++waits,m.blk k)) (r:∀k,G' k->G k\/w0.heap.size<=k) (hi:waits[i]?=some m) (u:S.log.length<200) (f:qht S=some m.t)
 (v:qae (qas b lv wv sv) wr w6) (f6:∀k,qas b lv c sv k->qas b lv wv sv k\/wr.heap.size<=k)
 (ap:qco j b l c n (qcb {S with waits:=qh0 S.waits m.t} m.t) (log++[m]) (waits.take i++waits.drop (i+1))) (D:∀k,qas b l c n k->qas b lv c sv k\/w6.heap.size<=k) (E:qae (qas b lv c sv) w6 j):
 qu9 w0 b G F S0 (qnp S m.t) j:=by
 have y:m∈waits:=List.mem_of_getElem? hi
 have z:m.t∈S.waits:=by rw[<-p];exact List.mem_map.2 ⟨m,y,rfl⟩
 have H:S.waits[i]?=some m.t:=by rw[<-p,List.getElem?_map,hi];rfl
 have I:∀x∈waits.take i++waits.drop (i+1),x∈waits:=λx f=>by
  rcases List.mem_append.1 f with a|a
  ·exact List.mem_of_mem_take a
  ·exact List.mem_of_mem_drop a
 have f9:∀k,qas b l c n k->qas b lv wv sv k\/wr.heap.size<=k:=λk o=>by
  rcases D k o with a|a
  ·exact f6 k a
  ·exact .inr (by have:=v.size;omega)
 have g:qae (qas b lv wv sv) wr j:=v.more E f6;have J:qae G' wr j:=⟨g.os,g.tape,g.output,g.size,λk o K=>g.block k o (λe=>K ((q k).2 (.inl e)))⟩;refine⟨⟨λk=>qas b l c n k\/∃x∈(log++[m])++(waits.take i++waits.drop (i+1)),x.blk k,⟨l,c,n,log++[m],waits.take i++waits.drop (i+1),ap,by rw[List.map_append,C];rfl,?_,λk=>Iff.rfl,B.touch A g (λx f=>List.mem_append.2 (.inl f))⟩,λk o=>?_⟩,d.touch.more J r,d.inv.gone z u,?_,λX L=>d.go X (.step u f L)⟩
 ·show _=qh0 S.waits m.t;rw[qsi d.inv.nums H,List.map_append,List.map_take,List.map_drop,p]
 ·rcases o with a|⟨x,f,a⟩
  ·rcases f9 k a with h|h
   ·exact r k ((q k).2 (.inl h))
   ·exact .inr (by have:=d.touch.size;omega)
  ·refine r k ((q k).2 (.inr ⟨x,?_,a⟩));rcases List.mem_append.1 f with h|h
   ·rcases List.mem_append.1 h with s|s
    ·exact List.mem_append.2 (.inl s)
    ·rw[List.mem_singleton.1 s];exact List.mem_append.2 (.inr y)
   ·exact List.mem_append.2 (.inr (I x h))
 ·have:=qg1 d.inv.nums z;have:=d.wn;show (qh0 S.waits m.t).length<=1000;omega
theorem qtl {a:Value} {log waits:List TxM} (c:qu9 w0 b G F S0 S wr) (d:qco wr b lv wv sv S log waits) (p:qeh wr F log) (g:log.map (·.t)=S.log) (h:waits.map (·.t)=S.waits)
 (q:∀k,G' k↔(qas b lv wv sv k\/∃m∈log++waits,m.blk k)) (r:∀k,G' k->G k\/w0.heap.size<=k) (hi:waits[i]?=some m) (s:S.log.length<200) (u:qht S=some m.t)
 (j:qae (qas b lv wv sv) wr w6) (f6:∀k,qas b lv a sv k->qas b lv wv sv k\/wr.heap.size<=k) (v:qco w6 b lv a sv {S with waits:=qh0 S.waits m.t} log (waits.take i++waits.drop (i+1))):
 Calls Tryz.prog 129 #[.pointer (some ⟨b,0,none⟩),.agg #[.int .i64 m.t.site,.int .i64 m.t.seq,.int .i64 m.t.wall,.int .i64 m.t.count,.int .i64 m.t.d0,.int .i64 m.t.d1,.int .i64 m.t.d2,.int .i64 m.t.d3,.slice m.wa m.t.ws.length m.wc]] w6 λe w'=>
  e=.returned (.tuple #[])/\qu9 w0 b G F S0 (qnp S m.t) w'/\qae (qas b lv a sv) w6 w':=by
 have n:m∈waits:=List.mem_of_getElem? hi;have hold:=d.hold m (List.mem_append.2 (.inr n))
 have x:m.t∈S.waits:=by rw[<-h];exact List.mem_map.2 ⟨m,n,rfl⟩
 obtain⟨⟨s0,s3⟩,B,C⟩:=qei (c.inv.wt m.t x).1;have D:=c.inv.len
 have E:log.length=S.log.length:=by rw[<-g];simp
 refine(qkr m w6 v ⟨hold.1.kept (λk e=>j.block k (hold.1.blk_lt k e) (hold.2 k e)),λk e y=>?_⟩ s0 s3 (by show S.l.length+_<=_;omega) (by omega)).mono λe w' ⟨z,H,I,p1,p2,p3⟩=>⟨z,qvw c d p g h q r hi s u j f6 p1 p2 p3,p3⟩;rcases f6 k y with o|o
 ·exact hold.2 k e o
 ·have:=hold.1.blk_lt k e;omega
end
section
open Go.Value Go.IntKind Go.RowKit
noncomputable def jc5:Code:=((Tryz.f84.body.bind (qg7 19)).getD .skip)
theorem qza {b:Nat} {S:qaf} {lv sv:Value} {F:Option Addr} {J:Nat} {log waits:List TxM} {y1 y2 y3 y4 y5 y6 y7 y9 y10 y11 y12 y13 y14 y15 y16 y17 y18 y19 y20 y21 y22 y23 y24 y25 y26 y27 y28 y29 y30 y31 y32 y33 y34 y35 y36 y37 y38 y39 y40 y41 y42 y43 y44 y45 y46 y47 y48 y49 y50 y51 y52 y53 y54 y55 y56 y57 y58 y59 y60 y61 y62 y63 y64 y65 y66 y67 y68 y69 y70 y71 y72 y73 y74 y75 y76 y77 y78 y79 y80 y81 y82 y83 y84 y85 y86 y87 y88 y89 y90 y91 y92 y93 y94 y95 y96 y97 y98 y99 y100 y101 y102 y103 y104 y105 y106 y107 y108 y109 y110 y111 y112 y113 y114 y115 y116 y117 y118 y119 y123 y124 y125 y126 y127 y128 y129 y130 y131 y132 y133 y134 y135 y136 y137 y138 y139 y140 y141 y142 y143 y144 y145 y146 y147 y148 y149 y150 y151 y152 y153 y154 y155 y156 y157 y158 y159 y160 y161 y162 y163 y164 y165 y166 y167 y168 y169 y170 y171 y172 y173 y174 y175 y176 y177 y178 y179 y180 y181 y182 y183 y184 y185 y186 y187 y188 y189 y190 y191 y192 y193 y194 y195 y196:Value} (w:World) (U:qco w b lv (.slice F waits.length J) sv S log waits) (hw:waits.map (·.t)=S.waits) (hI:qcx S) (hn:waits.length<=1000) (R:Act->World->Prop)
 (hR:∀(u9 u10 u122 u123 u124 u125 u126 u127 u128 u129 u130 u131 u132 u133 u134 u135 u136 u137 u138 u139 u140 u141 u142 u143 u144 u145 u146 u147 u148 u149 u150 u151 u152 u153 u154 u155 u156 u157 u158 u159 u160 u161 u162 u163 u164 u165:Value) (z:Int) (w':World),qg2 S waits waits.length z->Below w.heap.size w w'->R ⟨List.toArray ((.pointer (some ⟨b,0,none⟩))::y1::y2::y3::y4::y5::y6::y7::(int i64 z)::u9::u10::y11::y12::y13::y14::y15::y16::y17::y18::y19::y20::y21::y22::y23::y24::y25::y26::y27::y28::y29::y30::y31::y32::y33::y34::y35::y36::y37::y38::y39::y40::y41::y42::y43::y44::y45::y46::y47::y48::y49::y50::y51::y52::y53::y54::y55::y56::y57::y58::y59::y60::y61::y62::y63::y64::y65::y66::y67::y68::y69::y70::y71::y72::y73::y74::y75::y76::y77::y78::y79::y80::y81::y82::y83::y84::y85::y86::y87::y88::y89::y90::y91::y92::y93::y94::y95::y96::y97::y98::y99::y100::y101::y102::y103::y104::y105::y106::y107::y108::y109::y110::y111::y112::y113::y114::y115::y116::y117::y118::y119::(.slice F waits.length J)::(int i64 waits.length)::u122::u123::u124::u125::u126::u127::u128::u129::u130::u131::u132::u133::u134::u135::u136::u137::u138::u139::u140::u141::u142::u143::u144::u145::u146::u147::u148::u149::u150::u151::u152::u153::u154::u155::u156::u157::u158::u159::u160::u161::u162::u163::u164::u165::y166::y167::y168::y169::y170::y171::y172::y173::y174::y175::y176::y177::y178::y179::y180::y181::y182::y183::y184::y185::y186::y187::y188::y189::y190::y191::y192::y193::y194::y195::y196::[]),[]⟩ w'):
 Code.wp Tryz.prog jc5 (λe a w=>e=.exit 4/\R a w) ⟨List.toArray ((.pointer (some ⟨b,0,none⟩))::y1::y2::y3::y4::y5::y6::y7::(int i64 (-1))::y9::y10::y11::y12::y13::y14::y15::y16::y17::y18::y19::y20::y21::y22::y23::y24::y25::y26::y27::y28::y29::y30::y31::y32::y33::y34::y35::y36::y37::y38::y39::y40::y41::y42::y43::y44::y45::y46::y47::y48::y49::y50::y51::y52::y53::y54::y55::y56::y57::y58::y59::y60::y61::y62::y63::y64::y65::y66::y67::y68::y69::y70::y71::y72::y73::y74::y75::y76::y77::y78::y79::y80::y81::y82::y83::y84::y85::y86::y87::y88::y89::y90::y91::y92::y93::y94::y95::y96::y97::y98::y99::y100::y101::y102::y103::y104::y105::y106::y107::y108::y109::y110::y111::y112::y113::y114::y115::y116::y117::y118::y119::(.slice F waits.length J)::(int i64 waits.length)::(int i64 0)::y123::y124::y125::y126::y127::y128::y129::y130::y131::y132::y133::y134::y135::y136::y137::y138::y139::y140::y141::y142::y143::y144::y145::y146::y147::y148::y149::y150::y151::y152::y153::y154::y155::y156::y157::y158::y159::y160::y161::y162::y163::y164::y165::y166::y167::y168::y169::y170::y171::y172::y173::y174::y175::y176::y177::y178::y179::y180::y181::y182::y183::y184::y185::y186::y187::y188::y189::y190::y191::y192::y193::y194::y195::y196::[]),[]⟩ w:=by
 have HR:Hid _:=hR;clear hR;have O:Hid (qco w b lv (.slice F waits.length J) sv S log waits/\waits.map (·.t)=S.waits/\qcx S):=⟨U,hw,hI⟩
 have V:Hid (qew w F J waits):=by
  obtain⟨a9,c9,e9,h9⟩:=qbl U.rwait;injection e9 with c h d;rw[c,d];exact h9
 have hvl:=V.out.len;have hvc:=V.out.cap;have hne:=Later.one;clear U hw hI
 conv=>arg 2;whnf
 go_loopw [8,122] (λbv iv wr=>∃(k:Nat) (z j:Int),k<=waits.length/\z=k/\bv=int i64 j/\iv=int i64 z/\Hid (qg2 S waits k j)/\Below w.heap.size w wr) (λ_ i _=>waits.length-(intOf i).toNat)
 case atStart=>exact⟨0,0, -1,by omega,rfl,rfl,rfl,q01 S waits,Below.refl _ _⟩
 case round=>
  obtain⟨k,z,j,hk,hz,rfl,rfl,B,W⟩:=hrel;have n:Hid _:=hz;by_cases X:k<waits.length
  ·have g1:z<(waits.length:Int):=by omega
   have g2:z.toNat=k:=by omega
   have g3:0<=z:=by omega
   clear hz
   obtain⟨K,L,hwa,Y⟩:∃K L,F=some ⟨K,L,none⟩/\∀i m r u,waits[i]?=some m->(txC m)[r]?=some u->w.cell? ⟨K,L+(i*9+r),none⟩=some u:=by
        rcases V.out.held with e|e
        ·rw[e]at X;simp at X
        ·exact e
   obtain⟨⟨⟨xs,g,o,p,l,c,h,d,q⟩,G,H⟩,P⟩:∃m,waits[k]?=some m:=⟨waits[k],List.getElem?_eq_getElem X⟩;have M:Hid _:=P;have hok:=(O.out.2.2.wt ⟨xs,g,o,p,l,c,h,d,q⟩ (by rw[<-O.out.2.1];exact List.mem_map.2 ⟨_,List.mem_of_getElem? P,rfl⟩)).1;obtain⟨⟨s0,s3⟩,_,_⟩:=qei hok;simp only at s0 s3
   have s4:xs<4:=by omega
   have s:=λr u (hu:(txC ⟨⟨xs,g,o,p,l,c,h,d,q⟩,G,H⟩)[r]?=some u)=>(show wr.cell? ⟨K,L+k*9+r,none⟩=some u by rw[Nat.add_assoc];exact cell_later W (Y k _ r u P hu));have x0:=s 0 _ rfl;have x1:=s 1 _ rfl;have x2:=s 2 _ rfl;have x3:=s 3 _ rfl;have x4:=s 4 _ rfl;have x5:=s 5 _ rfl;have x6:=s 6 _ rfl;have x7:=s 7 _ rfl;have x8:=s 8 _ rfl;rw[Nat.add_zero]at x0;have C:=boxed W (.cells #[int i64 xs,int i64 g,int i64 o,int i64 p,int i64 l,int i64 c,int i64 h,int i64 d,.slice G q.length H] 102);have y:=qag.new (w:=wr) (T:=102) [int i64 xs,int i64 g,int i64 o,int i64 p,int i64 l,int i64 c,int i64 h,int i64 d,.slice G q.length H] rfl;change qag (wr.alloc (.cells #[int i64 xs,int i64 g,int i64 o,int i64 p,int i64 l,int i64 c,int i64 h,int i64 d,.slice G q.length H] 102)) wr.heap.size [int i64 xs,int i64 g,int i64 o,int i64 p,int i64 l,int i64 c,int i64 h,int i64 d,.slice G q.length H]at y;have E:=O.out.1.later C;have t0:=Later.cell (y.cell 0 _ rfl);have t1:=Later.cell (y.cell 1 _ rfl);have t4:=Later.cell (y.cell 4 _ rfl);have t5:=Later.cell (y.cell 5 _ rfl);have t6:=Later.cell (y.cell 6 _ rfl);have t7:=Later.cell (y.cell 7 _ rfl);have ks:=Later.cell (qmy E.box s0 s3);have k1:=Later.cell (E.box.cell 1 _ rfl);have k2:=Later.cell (E.box.cell 2 _ rfl);have k3:=Later.cell (E.box.cell 3 _ rfl);have k4:=Later.cell (E.box.cell 4 _ rfl);have k8:=Later.cell (E.box.cell 8 _ rfl);obtain⟨D,Z⟩:∃D,qaq xs S.a0 S.a1 S.a2 S.a3=D:=⟨_,rfl⟩;have HD:Hid _:=Z;have aa:=O.out.2.2.dep xs;rw[Z]at ks aa;have hwr:=qfq aa
   have ab:Hid (qau S ⟨xs,g,o,p,l,c,h,d,q⟩=(decide (g=D+1)&&qfu S.a0 S.a1 S.a2 S.a3 l c h d)):=by show qau S ⟨xs,g,o,p,l,c,h,d,q⟩=_;unfold qau;rw[HD.out]
   rw[hwa]at k8 ⊢;have HCC:Hid _:=Y;clear s Y P y E Z aa hok s3;by_cases I:g=D+1
   ·have q2:(g==D+1)=true:=by simp[I]
    have HQ:Hid _:=I;clear I;cases hc:qfu S.a0 S.a1 S.a2 S.a3 l c h d
    ·have N:Hid _:=hc
     have HN:Hid (qau S ⟨xs,g,o,p,l,c,h,d,q⟩=false):=by show _=_;rw[ab.out,hc];simp
     clear hc
     go_wp2_with fail
     refine qaa (by kernel_rfl) (by kernel_rfl) ?_
     repeat (go_big_quiet_step (first|rfl|(go_at_call 77;with_reducible exact qac (qbj N.out _))))
     refine wpQuiet_nil ?_;rintro Q ⟨⟨_,v⟩,rfl⟩
     go_wp2_with fail
     go_roundw
     case rel=>exact⟨k+1,z+1,j,by omega,by have:=n.out;omega,rfl,by go_num,q3i B.out M.out HN.out,qab C v⟩
     case measure=>simp[intOf];have:=n.out;omega
    ·have N:Hid _:=hc
     have HY:Hid (qau S ⟨xs,g,o,p,l,c,h,d,q⟩=true):=by show _=_;rw[ab.out,hc,HQ.out];simp
     clear hc;by_cases hbz:j<0
     ·have HE:Hid (j= -1):=by
          show _=_;rcases B.out with ⟨e,_⟩|⟨i,x,e,_⟩
          ·exact e
          ·omega
      go_wp2_with fail
      refine qaa (by kernel_rfl) (by kernel_rfl) ?_
      repeat (go_big_quiet_step (first|rfl|(go_at_call 77;with_reducible exact qac (qbj N.out _))))
      refine wpQuiet_nil ?_;rintro Q ⟨⟨_,v⟩,rfl⟩
      go_wp2_with fail
      go_roundw
      case rel=>exact⟨k+1,z+1,z,by omega,by have:=n.out;omega,rfl,by go_num,(by rw[n.out];exact q0b (by rw[<-HE.out];exact B.out) M.out HY.out),qab C v⟩
      case measure=>simp[intOf];have:=n.out;omega
     ·obtain⟨i,⟨⟨bs,bq,bw,bc,f0,f1,f2,f3,bws⟩,ba,bcap⟩,hzi,hik,hbx⟩:=jbb B.out (by omega);have HBX:Hid _:=hbx;have HZI:Hid (j=i/\qg2 S waits k i):=⟨hzi,by rw[<-hzi];exact B.out⟩;have b1:decide (j<0)=false:=decide_eq_false hbz
      have z0:0<=j:=by omega
      have z1:j.toNat=i:=by omega
      have z2:j<(waits.length:Int):=by omega
      have cb:(wr.alloc (.cells #[int i64 xs,int i64 g,int i64 o,int i64 p,int i64 l,int i64 c,int i64 h,int i64 d,.slice G q.length H] 102)).cell? ⟨K,L+i*9,none⟩=some (int i64 bs):=cell_later C (HCC.out i _ 0 _ hbx rfl);have cbl:=Later.cell cb;clear hbx hzi cb;by_cases hl:xs<bs
      ·have b2:decide (xs<bs)=true:=decide_eq_true hl
       go_wp2_with fail
       refine qaa (by kernel_rfl) (by kernel_rfl) ?_
       repeat (go_big_quiet_step (first|rfl|(go_at_call 77;with_reducible exact qac (qbj N.out _))))
       refine wpQuiet_nil ?_;rintro Q ⟨⟨_,v⟩,rfl⟩
       go_wp2_with fail
       go_roundw
       case rel=>exact⟨k+1,z+1,z,by omega,by have:=n.out;omega,rfl,by go_num,(by rw[n.out];exact q3x HZI.out.2 HBX.out M.out HY.out hl),qab C v⟩
       case measure=>simp[intOf];have:=n.out;omega
      ·have b2:decide (xs<bs)=false:=decide_eq_false hl
       go_wp2_with fail
       refine qaa (by kernel_rfl) (by kernel_rfl) ?_
       repeat (go_big_quiet_step (first|rfl|(go_at_call 77;with_reducible exact qac (qbj N.out _))))
       refine wpQuiet_nil ?_;rintro Q ⟨⟨_,v⟩,rfl⟩
       go_wp2_with fail
       go_roundw
       case rel=>exact⟨k+1,z+1,j,by omega,by have:=n.out;omega,rfl,by go_num,(by rw[HZI.out.1];exact q5v HZI.out.2 HBX.out M.out (by simp only;omega)),qab C v⟩
       case measure=>simp[intOf];have:=n.out;omega
   ·have q2:(g==D+1)=false:=by simp[I]
    have HN:Hid (qau S ⟨xs,g,o,p,l,c,h,d,q⟩=false):=by show _=_;rw[ab.out];simp[I]
    clear I
    go_wp2_with fail
    refine qaa (by kernel_rfl) (by kernel_rfl) ?_
    repeat (go_big_quiet_step (first|rfl|fail))
    refine wpQuiet_nil ?_;rintro Q ⟨⟨_,v⟩,rfl⟩
    go_wp2_with fail
    go_roundw
    case rel=>exact⟨k+1,z+1,j,by omega,by have:=n.out;omega,rfl,by go_num,q3i B.out M.out HN.out,qab C v⟩
    case measure=>simp[intOf];have:=n.out;omega
  ·have g1:¬z<(waits.length:Int):=by omega
   have hkk:k=waits.length:=by omega
   subst hkk
   go_wp2_with fail
   exact HR.out _ _ _ _ _ _ _ _ _ _ _ _ _ _ _ _ _ _ _ _ _ _ _ _ _ _ _ _ _ _ _ _ _ _ _ _ _ _ _ _ _ _ _ _ _ _ j wr B.out W
end
section
open Go.Value Go.IntKind Go.RowKit
theorem qsn {b:Nat} {lv wv sv:Value} {S:qaf} {log waits:List TxM} (a:Int) (w:World) (h:qco w b lv wv sv S log waits):
 Calls Tryz.prog 87 #[.pointer (some ⟨b,0,none⟩),int i64 a] w λe w'=>
  e=.returned (.agg #[int i64 (qap S (qdo a)).v0,int i64 (qap S (qdo a)).v1,int i64 (qap S (qdo a)).v2,int i64 (qap S (qdo a)).v3])/\Below w.heap.size w w':=by
 have D:=(qa9.new w 77 0 0 0 0).boxed (.cells #[int i64 S.a0,int i64 S.a1,int i64 S.a2,int i64 S.a3] 77);have E:=qa9.newest (w:=w.alloc (.cells #[int i64 0,int i64 0,int i64 0,int i64 0] 77)) (T:=77) (n:=w.heap.size+1) (a0:=S.a0) (a1:=S.a1) (a2:=S.a2) (a3:=S.a3) (by simp);have hb:=boxed (boxed (Below.refl _ w) (.cells #[int i64 0,int i64 0,int i64 0,int i64 0] 77)) (.cells #[int i64 S.a0,int i64 S.a1,int i64 S.a2,int i64 S.a3] 77);have M:Hid _:=h;have F:=h.box.lt;have N:=h.box.cell 1 _ rfl;have O:=h.box.cell 2 _ rfl;have P:=h.box.cell 3 _ rfl;have Q:=h.box.cell 4 _ rfl;clear h;go_enter Tryz.func87,Tryz.ntmps87
 go_wp2_with fail
 have o:Hid (StM w S 0 ((w.alloc (.cells #[int i64 0,int i64 0,int i64 0,int i64 0] 77)).alloc (.cells #[int i64 S.a0,int i64 S.a1,int i64 S.a2,int i64 S.a3] 77))):=⟨D,E,hb⟩;obtain⟨W,G⟩:∃W,(w.alloc (.cells #[int i64 0,int i64 0,int i64 0,int i64 0] 77)).alloc (.cells #[int i64 S.a0,int i64 S.a1,int i64 S.a2,int i64 S.a3] 77)=W:=⟨_,rfl⟩;rw[G]at o ⊢;clear G D E hb N O P Q F
 go_loopw [6] (λiv wr=>∃(k:Nat) (z:Int),k<=(qdo a)/\z=k/\iv=int i64 z/\Hid (StM w S k wr)) (λi _=>4-(intOf i).toNat)
 case atStart=>exact⟨0,0,by omega,rfl,rfl,o⟩
 case round=>
  clear o;obtain⟨k,z,hk,l,rfl,c⟩:=hrel;have H:Hid _:=l;have hcut:(qdo a)=min 4 a.toNat:=rfl;by_cases F:k<(qdo a)
  ·have R:z<a:=by omega
   have U:z<4:=by omega
   have h5:0<=z:=by omega
   have h6:z.toNat=k:=by omega
   have V:k<4:=by omega
   clear hcut;have g:=M.out.later c.out.b;have i0:=g.box.cell 0 _ rfl;by_cases p:z=S.id
   ·have e:Hid (qap S (k+1)=qap S k):=by
     show qap S (k+1)=qap S k
     have:(k:Int)=S.id:=by omega
     simp[qap,this]
    have X:Hid (StM w S (k+1) wr):=⟨c.out.r,by rw[e.out];exact c.out.v,c.out.b⟩
    have Y:(z==S.id)=true:=by simp[p]
    clear l g
    go_wp2_with fail
    go_roundw
    case rel=>exact⟨k+1,z+1,by omega,by have:=H.out;omega,by go_num,X⟩
    case measure=>simp[intOf];omega
   ·have Y:(z==S.id)=false:=by simp[p]
    obtain⟨I,J,K,L⟩:=q5q (S:=S) (lv:=lv) (wv:=wv) (sv:=sv) V;have Z:=g.box.cell _ _ I;have q1:=g.box.cell _ _ J;have q2:=g.box.cell _ _ K;have q3:=g.box.cell _ _ L;obtain⟨⟨v0,v1,v2,v3⟩,q⟩:∃v,qap S k=v:=⟨_,rfl⟩;obtain⟨p0,s⟩:∃x,S.oth (k*4)=x:=⟨_,rfl⟩;obtain⟨p1,u⟩:∃x,S.oth (k*4+1)=x:=⟨_,rfl⟩;obtain⟨p2,y⟩:∃x,S.oth (k*4+2)=x:=⟨_,rfl⟩;obtain⟨p3,B⟩:∃x,S.oth (k*4+3)=x:=⟨_,rfl⟩
    have EQ:Hid (qap S (k+1)=⟨qa6 v0 p0,qa6 v1 p1,qa6 v2 p2,qa6 v3 p3⟩):=by
     show qap S (k+1)=_
     have:¬(k:Int)=S.id:=by omega
     simp[qap,this,q,s,u,y,B]
    rw[s]at Z;rw[u]at q1;rw[y]at q2;rw[B]at q3
    have j:qa9 wr (w.heap.size+1) v0 v1 v2 v3:=by have:=c.out.v;rw[q]at this;exact this
    have x0:=j.c0;have x1:=j.c1;have x2:=j.c2;have x3:=j.c3
    have PU:Hid (Calls Tryz.prog 86 #[.agg #[int i64 v0,int i64 v1,int i64 v2,int i64 v3],.agg #[int i64 p0,int i64 p1,int i64 p2,int i64 p3]] wr.drew λe w'=>e=.returned (.agg #[int i64 (qa6 v0 p0),int i64 (qa6 v1 p1),int i64 (qa6 v2 p2),int i64 (qa6 v3 p3)])/\qa9 w' w.heap.size 0 0 0 0/\qa9 w' (w.heap.size+1) v0 v1 v2 v3/\Below w.heap.size w w'):=
     (qhz v0 v1 v2 v3 p0 p1 p2 p3 wr.drew).mono λe w' ⟨he,C⟩=>⟨he,qa9.later C c.out.r.drew,qa9.later C j.drew,qab c.out.b.drew C⟩
    have hB:w.heap.size<=w.heap.size+1:=by omega
    have hBB:=c.out.b.drew;clear l g I J K L q s u y B j c p
    go_wp2_with fail
    go_region_with
     (first|(go_at_call 86;with_reducible refine PU.out.mono ?_;rintro e w5 ⟨rfl,RR5,d,hb5⟩;have y0:=d.c0;have y1:=d.c1;have y2:=d.c2;have y3:=d.c3;have z0:=d.f0;have z1:=d.f1;have z2:=d.f2;have z3:=d.f3))
    all_goals
     have SM:Hid (StM w S (k+1) ((((w5.setCell ⟨w.heap.size+1,0,none⟩ (int i64 (qa6 v0 p0))).setCell ⟨w.heap.size+1,1,none⟩ (int i64 (qa6 v1 p1))).setCell ⟨w.heap.size+1,2,none⟩ (int i64 (qa6 v2 p2))).setCell ⟨w.heap.size+1,3,none⟩ (int i64 (qa6 v3 p3)))):=
      ⟨RR5.far4 (by omega),by rw[EQ.out];exact d.set,qm6 hb5 hB _ _ _ _⟩
     go_wp2_with fail
     go_roundw
     case rel=>exact⟨k+1,z+1,by omega,by have:=H.out;omega,by go_num,SM⟩
     case measure=>simp[intOf];omega
  ·have hke:k=(qdo a):=by omega
   by_cases R:z<a
   have U:¬z<4:=by omega
   all_goals
      clear hcut;subst hke;have r0:=c.out.r.c0;have r1:=c.out.r.c1;have r2:=c.out.r.c2;have r3:=c.out.r.c3;have f0:=c.out.r.f0;have f1:=c.out.r.f1;have f2:=c.out.r.f2;have f3:=c.out.r.f3;have x0:=c.out.v.c0;have x1:=c.out.v.c1;have x2:=c.out.v.c2;have x3:=c.out.v.c3;have m:=c.out.r.set (x0:=(qap S (qdo a)).v0) (x1:=(qap S (qdo a)).v1) (x2:=(qap S (qdo a)).v2) (x3:=(qap S (qdo a)).v3);have hbZ:=qm6 c.out.b (Nat.le_refl _) (qap S (qdo a)).v0 (qap S (qdo a)).v1 (qap S (qdo a)).v2 (qap S (qdo a)).v3;have g0:=m.c0;have g1:=m.c1;have g2:=m.c2;have g3:=m.c3;clear l
      go_wp2_with fail
      exact bodyPost_ret (v:=.agg #[int i64 (qap S (qdo a)).v0,int i64 (qap S (qdo a)).v1,int i64 (qap S (qdo a)).v2,int i64 (qap S (qdo a)).v3]) (by simp[results,Tryz.results87,go_sem,g0,g1,g2,g3]) rfl ⟨rfl,hbZ⟩
end
section
open Go.Value Go.IntKind Go.RowKit
theorem qz1 {sb F:Nat} {sv:Value} {l:List Hd} (a0 a1 a2 a3:Int) (w:World) (O:qit w sb F sv l) (hl:l.length<=1000):
 Calls Tryz.prog 88 #[.pointer (some ⟨sb,F,none⟩),.agg #[int i64 a0,int i64 a1,int i64 a2,int i64 a3]] w λe w'=>e=.returned (.tuple #[])/\qhd w sb F sv (qfr a0 a1 a2 a3 l) w':=by
 have hne:=Later.one;obtain⟨a,cap,rfl,hH⟩:=qjz O.own;have p:=qa9.new w 77 a0 a1 a2 a3;have hb:=boxed (Below.refl _ w) (.cells #[int i64 a0,int i64 a1,int i64 a2,int i64 a3] 77);have S1:=O.later hb;have s0:(w.alloc (.cells #[int i64 a0,int i64 a1,int i64 a2,int i64 a3] 77)).cell? ⟨sb,F,none⟩=some (.slice a l.length cap):=S1.box.cell;have hsb:sb<w.heap.size:=O.box.lt;go_enter Tryz.func88,Tryz.ntmps88
 go_wp2_with fail
 clear s0 S1;obtain⟨W,hWW⟩:∃W,w.alloc (.cells #[int i64 a0,int i64 a1,int i64 a2,int i64 a3] 77)=W:=⟨_,rfl⟩;rw[hWW]at p hb ⊢;clear hWW
 go_loopw [4,14] (λsl iv wr=>∃(k:Nat) (z:Int) (kept:List Hd) (lv:Value),lv=sl/\k<=l.length/\z=k/\iv=int i64 z/\(l.take k).filter (qi6 a0 a1 a2 a3 l)=kept/\wr.ownsRow (w.heap.size+1) 185 7 lv kept.length (qt3 kept)/\qa9 wr w.heap.size a0 a1 a2 a3/\Below w.heap.size w wr) (λ_ i _=>l.length-(intOf i).toNat)
 case atStart=>exact⟨0,0,[],_,rfl,by omega,rfl,rfl,rfl,World.ownsRow_nil _ _ _ _,p,hb⟩
 case round=>
  clear p hb;obtain⟨k,z,kept,lv,hsl,hk,hz,rfl,hkp,B,p,hb⟩:=hrel;subst hsl;have P:Hid _:=hkp;have HZ:Hid _:=hz;clear hkp;by_cases C:k<l.length
  ·have h1:z<(l.length:Int):=by omega
   have h2:z.toNat=k:=by omega
   have h3:0<=z:=by omega
   clear hz;have Q:=O.later hb;have aa:=hH.later hb
   obtain⟨b,I,rfl,R⟩:∃b I,a=some ⟨b,I,none⟩/\∀i r u,i<l.length->(hdL (qgt l i))[r]?=some u->wr.cell? ⟨b,I+(i*7+r),none⟩=some u:=by
        rcases aa.held with h0|h0
        ·rw[h0]at C;simp at C
        ·exact h0
   obtain⟨⟨q,⟨h,m,hs,d,n,o⟩⟩,E⟩:∃x,qgt l k=x:=⟨_,rfl⟩;have x0:wr.cell? ⟨b,I+k*7,none⟩=some (int i64 q):=R k 0 _ C (by rw[E];rfl);have x1:wr.cell? ⟨b,I+k*7+1,none⟩=some (int i64 h):=R k 1 _ C (by rw[E];rfl);have x2:wr.cell? ⟨b,I+k*7+2,none⟩=some (int i64 m):=R k 2 _ C (by rw[E];rfl);have x3:wr.cell? ⟨b,I+k*7+3,none⟩=some (int i64 hs):=R k 3 _ C (by rw[E];rfl);have x4:wr.cell? ⟨b,I+k*7+4,none⟩=some (int i64 d):=R k 4 _ C (by rw[E];rfl);have x5:wr.cell? ⟨b,I+k*7+5,none⟩=some (.string n):=R k 5 _ C (by rw[E];rfl);have x6:wr.cell? ⟨b,I+k*7+6,none⟩=some (.bool o):=R k 6 _ C (by rw[E];rfl);have hsite:=qmw (O.ok (qgt l k) (by simp only[qgt,List.getD,List.getElem?_eq_getElem C,Option.getD_some];exact List.getElem_mem C));rw[E]at hsite;simp only at hsite;obtain⟨t0,t1⟩:=hsite
   have t2:hs<4:=by omega
   have HX:Hid _:=E;clear E R;replace Q:=Q.later (boxed (Below.refl _ wr) (.cells #[int i64 q,int i64 h,int i64 m,int i64 hs,int i64 d,.string n,.bool o] 185));replace aa:=aa.later (boxed (Below.refl _ wr) (.cells #[int i64 q,int i64 h,int i64 m,int i64 hs,int i64 d,.string n,.bool o] 185));replace p:=p.boxed (.cells #[int i64 q,int i64 h,int i64 m,int i64 hs,int i64 d,.string n,.bool o] 185);replace B:=B.alloc (.cells #[int i64 q,int i64 h,int i64 m,int i64 hs,int i64 d,.string n,.bool o] 185);replace hb:=boxed hb (.cells #[int i64 q,int i64 h,int i64 m,int i64 hs,int i64 d,.string n,.bool o] 185);have c:=qag.new (w:=wr) (T:=185) [int i64 q,int i64 h,int i64 m,int i64 hs,int i64 d,.string n,.bool o] rfl;have c0:=p.c0;have c1:=p.c1;have c2:=p.c2;have c3:=p.c3;have y0:=c.cell 0 _ rfl
   go_wp2_with fail
   clear x0 x1 x2 x3 x4 x5 x6;refine(qt7 q a0 a1 a2 a3 _ (Q.box.cell) aa O.ok (by omega)).mono ?_;rintro e w2 ⟨rfl,ab⟩;clear c0 c1 c2 c3 y0 Q aa;obtain⟨Y,hbest⟩:∃Y,qde q a0 a1 a2 a3 l=Y:=⟨_,rfl⟩
   have KE:Hid (qi6 a0 a1 a2 a3 l (qgt l k)=(!(qkm Y)||eqV (Y.getD qc6) ⟨h,m,hs,d,n,o⟩||!(qke a0 a1 a2 a3 ⟨h,m,hs,d,n,o⟩))):=by
        show qi6 a0 a1 a2 a3 l (qgt l k)=_;rw[HX.out,<-hbest];rfl
   rw[hbest,qmh];clear hbest;obtain⟨sbv,hsbv⟩:∃s,qkm Y=s:=⟨_,rfl⟩;obtain⟨bv,hbv⟩:∃v,Y.getD qc6=v:=⟨_,rfl⟩;rw[hsbv,hbv]at KE ⊢;clear hsbv hbv;obtain⟨J,K,bs,L,M,N⟩:=bv;rw[show qah ⟨J,K,bs,L,M,N⟩=[int i64 J,int i64 K,int i64 bs,int i64 L,.string M,.bool N]from rfl];replace p:=(p.later ab).boxed (.cells #[int i64 J,int i64 K,int i64 bs,int i64 L,.string M,.bool N] 130);replace c:=(c.later ab).boxed (.cells #[int i64 J,int i64 K,int i64 bs,int i64 L,.string M,.bool N] 130);replace B:=(qga B ab).alloc (.cells #[int i64 J,int i64 K,int i64 bs,int i64 L,.string M,.bool N] 130);replace hb:=boxed (qab hb ab) (.cells #[int i64 J,int i64 K,int i64 bs,int i64 L,.string M,.bool N] 130);have Z:=qag.new (w:=w2) (T:=130) [int i64 J,int i64 K,int i64 bs,int i64 L,.string M,.bool N] rfl;clear ab;have hat:=Later.cell (qoz p t0 t1);have w0:=Later.cell (c.cell 0 _ rfl);have w1:=Later.cell (c.cell 1 _ rfl);have w2':=Later.cell (c.cell 2 _ rfl);have w3:=Later.cell (c.cell 3 _ rfl);have w4:=Later.cell (c.cell 4 _ rfl);have w5':=Later.cell (c.cell 5 _ rfl);have w6:=Later.cell (c.cell 6 _ rfl);have v0:=Later.cell (Z.cell 0 _ rfl);have v1:=Later.cell (Z.cell 1 _ rfl);have v2:=Later.cell (Z.cell 2 _ rfl);have v3:=Later.cell (Z.cell 3 _ rfl);have v4:=Later.cell (Z.cell 4 _ rfl);have v5:=Later.cell (Z.cell 5 _ rfl);cases sbv
   ·go_wp2_with fail
    refine qaa (by kernel_rfl) (by kernel_rfl) ?_
    repeat (go_big_quiet_step (fail))
    refine wpQuiet_nil ?_;rintro G ⟨⟨_,y⟩,rfl⟩;replace p:=p.later y;replace c:=c.later y;replace B:=qga B y;replace hb:=qab hb y;clear y
    have X:Hid ((l.take (k+1)).filter (qi6 a0 a1 a2 a3 l)=kept++[⟨q,⟨h,m,hs,d,n,o⟩⟩]):=by
     have e:qi6 a0 a1 a2 a3 l (qgt l k)=true:=by rw[KE.out];rfl
     show (l.take (k+1)).filter (qi6 a0 a1 a2 a3 l)=_;rw[qro C,List.filter_append,P.out,<-HX.out];simp[e]
    have y0:=c.cell 0 _ rfl;have y1:=c.cell 1 _ rfl;have y2:=c.cell 2 _ rfl;have y3:=c.cell 3 _ rfl;have y4:=c.cell 4 _ rfl;have y5:=c.cell 5 _ rfl;have y6:=c.cell 6 _ rfl;obtain⟨i0,hi,hz0,hz1,hz2⟩:=info_parts ql0;have hk6:=qk9 P.out
    have hsz5:w.heap.size+1<=G.heap.size:=by have:=p.lt;omega
    go_wp2_with (at_builtin;refine wpList_append_lies _ rfl (.tmp 45) (.tmp 47) 81 rfl (w.heap.size+1) 185 i0 (.agg #[int i64 0,int i64 0,int i64 0,int i64 0,int i64 0,.string ⟨#[]⟩,.bool false]) 7 64 Tryz.underlying81 hi hz0 hz1 hz2 rfl (by decide) lv kept.length (qt3 kept) rfl (B.alloc _) ⟨G.heap.size,0,none⟩ 1 1 (hdL ⟨q,⟨h,m,hs,d,n,o⟩⟩) rfl rfl (World.news_of_block (heap_alloc_new G (.cells #[int i64 q,int i64 h,int i64 m,int i64 hs,int i64 d,.string n,.bool o] 185))) (by intro u S;simp[hdL]at S;rcases S with rfl|rfl|rfl|rfl|rfl|rfl|rfl<;>rfl) (by decide) (by simp only[maxLen];omega) (by omega) (by simp;omega) _ rfl ?_;intro g U wE ownE V egE ltE)
    have H:∀j,lv.ownBlock=some j->w.heap.size+1<=j:=λj D=>(B.lt j D).1;have RAE:=(p.boxed (.cells #[int i64 q,int i64 h,int i64 m,int i64 hs,int i64 d,.string n,.bool o] 185)).grown4 V (λe=>by have:=H _ e.symm;omega);have hbE:=(boxed hb (.cells #[int i64 q,int i64 h,int i64 m,int i64 hs,int i64 d,.string n,.bool o] 185)).grown V (by have:=hb.size;simp;omega) (λj D=>by have:=H j D;omega)
    go_roundw
    case rel=>exact⟨k+1,z+1,kept++[⟨q,⟨h,m,hs,d,n,o⟩⟩],_,rfl,by omega,by have:=HZ.out;omega,by go_num,X.out,by rw[qjk,List.length_append];exact ownE,RAE,hbE⟩
    case measure=>simp[intOf];omega
   ·cases ev:eqV ⟨J,K,bs,L,M,N⟩ ⟨h,m,hs,d,n,o⟩
    ·have eqv2:=λw=>(q4g ⟨J,K,bs,L,M,N⟩ ⟨h,m,hs,d,n,o⟩ w).trans (by rw[ev]);cases hh:qke a0 a1 a2 a3 ⟨h,m,hs,d,n,o⟩
     ·have dh:decide (qaq hs a0 a1 a2 a3<d)=true:=decide_eq_true (by have:=of_decide_eq_false (show decide (d<=qaq hs a0 a1 a2 a3)=false from hh);omega)
      go_wp2_with fail
      refine qaa (by kernel_rfl) (by kernel_rfl) ?_
      repeat (go_big_quiet_step (fail))
      refine wpQuiet_nil ?_;rintro G ⟨⟨_,y⟩,rfl⟩;replace p:=p.later y;replace c:=c.later y;replace B:=qga B y;replace hb:=qab hb y;clear y
      have X:Hid ((l.take (k+1)).filter (qi6 a0 a1 a2 a3 l)=kept++[⟨q,⟨h,m,hs,d,n,o⟩⟩]):=by
          have e:qi6 a0 a1 a2 a3 l (qgt l k)=true:=by rw[KE.out];rw[ev,hh];rfl
          show (l.take (k+1)).filter (qi6 a0 a1 a2 a3 l)=_;rw[qro C,List.filter_append,P.out,<-HX.out];simp[e]
      have y0:=c.cell 0 _ rfl;have y1:=c.cell 1 _ rfl;have y2:=c.cell 2 _ rfl;have y3:=c.cell 3 _ rfl;have y4:=c.cell 4 _ rfl;have y5:=c.cell 5 _ rfl;have y6:=c.cell 6 _ rfl;obtain⟨i0,hi,hz0,hz1,hz2⟩:=info_parts ql0;have hk6:=qk9 P.out
      have hsz5:w.heap.size+1<=G.heap.size:=by have:=p.lt;omega
      go_wp2_with (at_builtin;refine wpList_append_lies _ rfl (.tmp 45) (.tmp 47) 81 rfl (w.heap.size+1) 185 i0 (.agg #[int i64 0,int i64 0,int i64 0,int i64 0,int i64 0,.string ⟨#[]⟩,.bool false]) 7 64 Tryz.underlying81 hi hz0 hz1 hz2 rfl (by decide) lv kept.length (qt3 kept) rfl (B.alloc _) ⟨G.heap.size,0,none⟩ 1 1 (hdL ⟨q,⟨h,m,hs,d,n,o⟩⟩) rfl rfl (World.news_of_block (heap_alloc_new G (.cells #[int i64 q,int i64 h,int i64 m,int i64 hs,int i64 d,.string n,.bool o] 185))) (by intro u S;simp[hdL]at S;rcases S with rfl|rfl|rfl|rfl|rfl|rfl|rfl<;>rfl) (by decide) (by simp only[maxLen];omega) (by omega) (by simp;omega) _ rfl ?_;intro g U wE ownE V egE ltE)
      have H:∀j,lv.ownBlock=some j->w.heap.size+1<=j:=λj D=>(B.lt j D).1;have RAE:=(p.boxed (.cells #[int i64 q,int i64 h,int i64 m,int i64 hs,int i64 d,.string n,.bool o] 185)).grown4 V (λe=>by have:=H _ e.symm;omega);have hbE:=(boxed hb (.cells #[int i64 q,int i64 h,int i64 m,int i64 hs,int i64 d,.string n,.bool o] 185)).grown V (by have:=hb.size;simp;omega) (λj D=>by have:=H j D;omega)
      go_roundw
      case rel=>exact⟨k+1,z+1,kept++[⟨q,⟨h,m,hs,d,n,o⟩⟩],_,rfl,by omega,by have:=HZ.out;omega,by go_num,X.out,by rw[qjk,List.length_append];exact ownE,RAE,hbE⟩
      case measure=>simp[intOf];omega
     ·have dh:decide (qaq hs a0 a1 a2 a3<d)=false:=decide_eq_false (by have:=of_decide_eq_true (show decide (d<=qaq hs a0 a1 a2 a3)=true from hh);omega)
      go_wp2_with fail
      refine qaa (by kernel_rfl) (by kernel_rfl) ?_
      repeat (go_big_quiet_step (fail))
      refine wpQuiet_nil ?_;rintro G ⟨⟨_,y⟩,rfl⟩;replace p:=p.later y;replace c:=c.later y;replace B:=qga B y;replace hb:=qab hb y;clear y
      have X:Hid ((l.take (k+1)).filter (qi6 a0 a1 a2 a3 l)=kept):=by
          have e:qi6 a0 a1 a2 a3 l (qgt l k)=false:=by rw[KE.out];rw[ev,hh];rfl
          show (l.take (k+1)).filter (qi6 a0 a1 a2 a3 l)=kept;rw[qro C,List.filter_append,P.out];simp[e]
      go_wp2_with fail
      go_roundw
      case rel=>exact⟨k+1,z+1,kept,_,rfl,by omega,by have:=HZ.out;omega,by go_num,X.out,B,p,hb⟩
      case measure=>simp[intOf];omega
    ·have eqv2:=λw=>(q4g ⟨J,K,bs,L,M,N⟩ ⟨h,m,hs,d,n,o⟩ w).trans (by rw[ev])
     go_wp2_with fail
     refine qaa (by kernel_rfl) (by kernel_rfl) ?_
     repeat (go_big_quiet_step (fail))
     refine wpQuiet_nil ?_;rintro G ⟨⟨_,y⟩,rfl⟩;replace p:=p.later y;replace c:=c.later y;replace B:=qga B y;replace hb:=qab hb y;clear y
     have X:Hid ((l.take (k+1)).filter (qi6 a0 a1 a2 a3 l)=kept++[⟨q,⟨h,m,hs,d,n,o⟩⟩]):=by
      have e:qi6 a0 a1 a2 a3 l (qgt l k)=true:=by rw[KE.out];rw[ev];rfl
      show (l.take (k+1)).filter (qi6 a0 a1 a2 a3 l)=_;rw[qro C,List.filter_append,P.out,<-HX.out];simp[e]
     have y0:=c.cell 0 _ rfl;have y1:=c.cell 1 _ rfl;have y2:=c.cell 2 _ rfl;have y3:=c.cell 3 _ rfl;have y4:=c.cell 4 _ rfl;have y5:=c.cell 5 _ rfl;have y6:=c.cell 6 _ rfl;obtain⟨i0,hi,hz0,hz1,hz2⟩:=info_parts ql0;have hk6:=qk9 P.out
     have hsz5:w.heap.size+1<=G.heap.size:=by have:=p.lt;omega
     go_wp2_with (at_builtin;refine wpList_append_lies _ rfl (.tmp 45) (.tmp 47) 81 rfl (w.heap.size+1) 185 i0 (.agg #[int i64 0,int i64 0,int i64 0,int i64 0,int i64 0,.string ⟨#[]⟩,.bool false]) 7 64 Tryz.underlying81 hi hz0 hz1 hz2 rfl (by decide) lv kept.length (qt3 kept) rfl (B.alloc _) ⟨G.heap.size,0,none⟩ 1 1 (hdL ⟨q,⟨h,m,hs,d,n,o⟩⟩) rfl rfl (World.news_of_block (heap_alloc_new G (.cells #[int i64 q,int i64 h,int i64 m,int i64 hs,int i64 d,.string n,.bool o] 185))) (by intro u S;simp[hdL]at S;rcases S with rfl|rfl|rfl|rfl|rfl|rfl|rfl<;>rfl) (by decide) (by simp only[maxLen];omega) (by omega) (by simp;omega) _ rfl ?_;intro g U wE ownE V egE ltE)
     have H:∀j,lv.ownBlock=some j->w.heap.size+1<=j:=λj D=>(B.lt j D).1;have RAE:=(p.boxed (.cells #[int i64 q,int i64 h,int i64 m,int i64 hs,int i64 d,.string n,.bool o] 185)).grown4 V (λe=>by have:=H _ e.symm;omega);have hbE:=(boxed hb (.cells #[int i64 q,int i64 h,int i64 m,int i64 hs,int i64 d,.string n,.bool o] 185)).grown V (by have:=hb.size;simp;omega) (λj D=>by have:=H j D;omega)
     go_roundw
     case rel=>exact⟨k+1,z+1,kept++[⟨q,⟨h,m,hs,d,n,o⟩⟩],_,rfl,by omega,by have:=HZ.out;omega,by go_num,X.out,by rw[qjk,List.length_append];exact ownE,RAE,hbE⟩
     case measure=>simp[intOf];omega
  ·have h4:¬z<(l.length:Int):=by omega
   have e:k=l.length:=by omega
   have KP:Hid (qfr a0 a1 a2 a3 l=kept):=by
        show qfr a0 a1 a2 a3 l=kept;have:=P.out;rw[e,List.take_length]at this;exact this
   clear hz e;have Q:=O.later hb;have s0:wr.cell? ⟨sb,F,none⟩=some (.slice a l.length cap):=Q.box.cell;have s1:wr.frozen? ⟨sb,F,none⟩=false:=Q.box.free;have H:∀j,lv.ownBlock=some j->w.heap.size+1<=j:=λj D=>(B.lt j D).1;obtain⟨a9,U,rfl,_⟩:=qjz B;have BZ:=Q.box.set (.slice a9 kept.length U)
   have nsb:(Value.slice a9 kept.length U).ownBlock≠some sb:=λe=>by have:=H sb e;omega
   have ownZ:=Joins.ownsRow_le (B.kept (row:=some sb) (qj9 sb F wr (.slice a9 kept.length U)) (.inr nsb)) (Nat.zero_le _);have TZ:qae (q75 sb (.slice a l.length cap)) w (wr.setCell ⟨sb,F,none⟩ (.slice a9 kept.length U)):=(qae.ofBelow hb).trans (qae.setCell wr ⟨sb,F,none⟩ _ (.inl rfl))
   have FIN:Hid (qhd w sb F (.slice a l.length cap) kept (wr.setCell ⟨sb,F,none⟩ (.slice a9 kept.length U))):=
        ⟨_,⟨BZ,ownZ,nsb,λx E=>by
          rw[<-KP.out]at E
          exact O.ok x (List.mem_filter.1 E).1⟩,λj D=>.inr (by have:=H j D;omega),TZ,(qgx.ofBlock (hb.block sb hsb)).trans (qgx.set sb F wr _)⟩
   clear BZ ownZ TZ
   go_wp2_with fail
   go_end0;exact⟨rfl,by rw[KP.out];exact FIN.out⟩
end
section
open Go.Value Go.IntKind Go.RowKit
theorem q3d {sb M:Nat} {sv:Value} {l:List Hd} (a0 a1 a2 a3:Int) (w:World) (E:qit w sb M sv l) (hl:l.length<=1000):
 Calls Tryz.prog 43 #[.pointer (some ⟨sb,M,none⟩),.agg #[int i64 a0,int i64 a1,int i64 a2,int i64 a3]] w λe w'=>∃v,e=.returned v/\w'.ownsRow (w.heap.size+1) 9 1 v 8 (qhj a0 a1 a2 a3 l 8)/\Below w.heap.size w w':=by
 obtain⟨a,cap,rfl,Z⟩:=qjz E.own;have c:=qa9.new w 77 a0 a1 a2 a3;have hb:=boxed (Below.refl _ w) (.cells #[int i64 a0,int i64 a1,int i64 a2,int i64 a3] 77);go_enter Tryz.func43,Tryz.ntmps43
 go_wp2_with fail
 obtain⟨W,N⟩:∃W,w.alloc (.cells #[int i64 a0,int i64 a1,int i64 a2,int i64 a3] 77)=W:=⟨_,rfl⟩;rw[N]at c hb ⊢;clear N
 go_loopw [5,9] (λsl iv wr=>∃(k:Nat) (z:Int) (lv:Value),lv=sl/\k<=8/\z=k/\iv=int i64 z/\wr.ownsRow (w.heap.size+1) 9 1 lv k (qhj a0 a1 a2 a3 l k)/\qa9 wr w.heap.size a0 a1 a2 a3/\Below w.heap.size w wr) (λ_ i _=>8-(intOf i).toNat)
 case atStart=>exact⟨0,0,_,rfl,by omega,rfl,rfl,World.ownsRow_nil _ _ _ _,c,hb⟩
 case round=>
  clear c hb;obtain⟨k,z,lv,hsl,hk,O,rfl,r,c,hb⟩:=hrel;subst hsl;have F:Hid _:=O;by_cases hlt:k<8
  ·have h1:z<8:=by omega
   have h3:0<=z:=by omega
   have Q:=E.later hb;have R:=Z.later hb;have c0:=c.c0;have c1:=c.c1;have c2:=c.c2;have c3:=c.c3;clear O
   go_wp2_with fail
   refine(qu6 z a0 a1 a2 a3 _ (Q.box.cell) R E.ok (by omega)).mono ?_;rintro e w2 ⟨rfl,q⟩;clear c0 c1 c2 c3 Q R;have G:=qql (key:=z) (a0:=a0) (a1:=a1) (a2:=a2) (a3:=a3) E.ok
   have s:Hid (qhh a0 a1 a2 a3 l k=if (qdu z a0 a1 a2 a3 l).2=0 then (⟨#[61]⟩:ByteArray)++(qdu z a0 a1 a2 a3 l).1.data else ⟨#[]⟩):=by
        show qhh a0 a1 a2 a3 l k=_;rw[F.out];rfl
   obtain⟨⟨rv,H⟩,S⟩:∃x,qdu z a0 a1 a2 a3 l=x:=⟨_,rfl⟩;rw[S]at s G ⊢;simp only at s G ⊢;clear S;obtain⟨d,m,bs,n,b,o⟩:=rv;simp only at s G;rw[show qah ⟨d,m,bs,n,b,o⟩=[int i64 d,int i64 m,int i64 bs,int i64 n,.string b,.bool o]from rfl];replace c:=(c.later q).boxed (.cells #[int i64 d,int i64 m,int i64 bs,int i64 n,.string b,.bool o] 130);have U:w2.ownsRow (w.heap.size+1) 9 1 lv k (qhj a0 a1 a2 a3 l k):=r.kept (row:=none) ⟨q.os,q.tape,q.output,q.size,λj p _=>q.block j p⟩ (by cases lv.ownBlock<;>simp);replace r:=U.alloc (.cells #[int i64 d,int i64 m,int i64 bs,int i64 n,.string b,.bool o] 130);replace hb:=boxed (qab hb q) (.cells #[int i64 d,int i64 m,int i64 bs,int i64 n,.string b,.bool o] 130);have RB:=qag.new (w:=w2) (T:=130) [int i64 d,int i64 m,int i64 bs,int i64 n,.string b,.bool o] rfl;clear q U;have d3:=RB.cell 4 _ rfl;obtain⟨i0,hi,V,X,Y⟩:=info_parts qmq
   have hsz:w.heap.size+1<=w2.heap.size+1:=by have h:=c.lt;rw[World.size_alloc]at h;omega
   by_cases y:H=0
   ·have ee:(H==0)=true:=by simp[y]
    have I:Hid (qhh a0 a1 a2 a3 l k=(⟨#[61]⟩:ByteArray)++b):=by show qhh a0 a1 a2 a3 l k=_;rw[s.out,if_pos y]
    have ad:=λw=>qnh (P:=Tryz.prog) (⟨#[61]⟩:ByteArray) b (by have z:(⟨#[61]⟩:ByteArray).size=1:=rfl;omega) w;clear y s
    have nw:((w2.alloc (.cells #[int i64 d,int i64 m,int i64 bs,int i64 n,.string b,.bool o] 130)).alloc (.cells #[.string ((⟨#[61]⟩:ByteArray)++b)] 9)).heap[w2.heap.size+1]?=some (.cells #[.string ((⟨#[61]⟩:ByteArray)++b)] 9):=by have h:=heap_alloc_new (w2.alloc (.cells #[int i64 d,int i64 m,int i64 bs,int i64 n,.string b,.bool o] 130)) (.cells #[.string ((⟨#[61]⟩:ByteArray)++b)] 9);rw[World.size_alloc]at h;exact h
    go_wp2_with (at_builtin;refine wpList_append_lies _ rfl (.tmp 21) (.tmp 25) 42 rfl (w.heap.size+1) 9 i0 (.string ⟨#[]⟩) 1 16 Tryz.underlying42 hi V X Y rfl (by decide) lv k (qhj a0 a1 a2 a3 l k) rfl (r.alloc _) ⟨w2.heap.size+1,0,none⟩ 1 1 [.string ((⟨#[61]⟩:ByteArray)++b)] rfl rfl (World.news_of_block nw) (by intro u B;simp at B;rw[B];rfl) (by decide) (by simp only[maxLen];omega) (by omega) (by simp;omega) _ rfl ?_;intro g cap9 wE J C egE ltE)
    have D:∀j,lv.ownBlock=some j->w.heap.size+1<=j:=λj p=>(r.lt j p).1;have K:=(c.boxed (.cells #[.string ((⟨#[61]⟩:ByteArray)++b)] 9)).grown4 C (λe=>by have:=D _ e.symm;omega);have L:=(boxed hb (.cells #[.string ((⟨#[61]⟩:ByteArray)++b)] 9)).grown C (by have:=hb.size;simp;omega) (λj p=>by have:=D j p;omega)
    go_roundw
    case rel=>exact⟨k+1,z+1,_,rfl,by omega,by have:=F.out;omega,by go_num,by rw[qju,I.out];exact J,K,L⟩
    case measure=>simp[intOf];omega
   ·have ee:(H==0)=false:=beq_eq_false_iff_ne.2 y
    have I:Hid (qhh a0 a1 a2 a3 l k=⟨#[]⟩):=by show qhh a0 a1 a2 a3 l k=_;rw[s.out,if_neg y]
    clear y s
    have nw:((w2.alloc (.cells #[int i64 d,int i64 m,int i64 bs,int i64 n,.string b,.bool o] 130)).alloc (.cells #[.string ⟨#[]⟩] 9)).heap[w2.heap.size+1]?=some (.cells #[.string ⟨#[]⟩] 9):=by have h:=heap_alloc_new (w2.alloc (.cells #[int i64 d,int i64 m,int i64 bs,int i64 n,.string b,.bool o] 130)) (.cells #[.string ⟨#[]⟩] 9);rw[World.size_alloc]at h;exact h
    go_wp2_with (at_builtin;refine wpList_append_lies _ rfl (.tmp 27) (.tmp 28) 42 rfl (w.heap.size+1) 9 i0 (.string ⟨#[]⟩) 1 16 Tryz.underlying42 hi V X Y rfl (by decide) lv k (qhj a0 a1 a2 a3 l k) rfl (r.alloc _) ⟨w2.heap.size+1,0,none⟩ 1 1 [.string ⟨#[]⟩] rfl rfl (World.news_of_block nw) (by intro u B;simp at B;rw[B];rfl) (by decide) (by simp only[maxLen];omega) (by omega) (by simp;omega) _ rfl ?_;intro g cap9 wE J C egE ltE)
    have D:∀j,lv.ownBlock=some j->w.heap.size+1<=j:=λj p=>(r.lt j p).1;have K:=(c.boxed (.cells #[.string ⟨#[]⟩] 9)).grown4 C (λe=>by have:=D _ e.symm;omega);have L:=(boxed hb (.cells #[.string ⟨#[]⟩] 9)).grown C (by have:=hb.size;simp;omega) (λj p=>by have:=D j p;omega)
    go_roundw
    case rel=>exact⟨k+1,z+1,_,rfl,by omega,by have:=F.out;omega,by go_num,by rw[qju,I.out];exact J,K,L⟩
    case measure=>simp[intOf];omega
  ·obtain rfl:k=8:=by omega
   go_wp2_with fail
   go_ret;exact⟨lv,rfl,r,hb⟩
end
section
open Go.RowKit
variable {b:Nat} {G:Nat->Prop} {F:Nat->Option Obj} {S:qaf}
theorem qv0 (a:Int) (w:World) (h:RS w b G F S):
 Calls Tryz.prog 87 #[.pointer (some ⟨b,0,none⟩),.int .i64 a] w λe w'=>
  e=.returned (.agg #[.int .i64 (qap S (qdo a)).v0,.int .i64 (qap S (qdo a)).v1,.int .i64 (qap S (qdo a)).v2,.int .i64 (qap S (qdo a)).v3])/\Below w.heap.size w w':=by
 obtain⟨lv,wv,sv,log,waits,h,_,_,_⟩:=h;exact qsn a w h
theorem q5z (a0 a1 a2 a3:Int) (w:World) (h:RS w b G F S) (a:qcx S):
 Calls Tryz.prog 43 #[.pointer (some ⟨b,9,none⟩),.agg #[.int .i64 a0,.int .i64 a1,.int .i64 a2,.int .i64 a3]] w λe w'=>∃v,e=.returned v/\w'.ownsRow (w.heap.size+1) 9 1 v 8 (qhj a0 a1 a2 a3 S.l 8)/\Below w.heap.size w w':=by
 obtain⟨lv,wv,sv,log,waits,h,_,_,_⟩:=h;exact q3d a0 a1 a2 a3 w h.st (by have:=a.len;have:=a.log;omega)
theorem q0t (x0 x1 x2 x3:Int) (w:World) (h:RS w b G F S) (c:qcx S):
 Calls Tryz.prog 88 #[.pointer (some ⟨b,9,none⟩),.agg #[.int .i64 x0,.int .i64 x1,.int .i64 x2,.int .i64 x3]] w λe w'=>e=.returned (.tuple #[])/\RPo w b G F {S with l:=qfr x0 x1 x2 x3 S.l} w':=by
 obtain⟨lv,wv,sv,log,waits,h,g,i,j,k⟩:=h;refine(qz1 x0 x1 x2 x3 w h.st (by have:=c.len;have:=c.log;omega)).mono λe w' ⟨n,o⟩=>⟨n,?_⟩;obtain⟨r,p,q,d⟩:=h.store o;exact RS.of g i j p q d (k.touch h d (λ_ a=>a)) (λm a=>.inl a)
end
section
open Go.Value Go.IntKind Go.RowKit
variable {b:Nat} {wv:Value} {s:qbn}
theorem jcj {w w2:World} {c:Value} (hb:Below w.heap.size w w2) (B:qag w2 b (qbw s c)) (x0 x1 x2 x3:Int):
 qlj w b wv ⟨x0,x1,x2,x3,false,0,0,0,0,[]⟩ ((((((((((w2.setCell ⟨b,0,none⟩ (int i64 x0)).setCell ⟨b,1,none⟩ (int i64 x1)).setCell ⟨b,2,none⟩ (int i64 x2)).setCell ⟨b,3,none⟩ (int i64 x3)).setCell ⟨b,8,none⟩ (.bool false)).setCell ⟨b,4,none⟩ (int i64 0)).setCell ⟨b,5,none⟩ (int i64 0)).setCell ⟨b,6,none⟩ (int i64 0)).setCell ⟨b,7,none⟩ (int i64 0)).setCell ⟨b,9,none⟩ (.slice none 0 0)):=by
 have d:=B.set 0 (int i64 x0) (by simp[qbw]);have e:=d.set 1 (int i64 x1) (by simp[qbw]);have f:=e.set 2 (int i64 x2) (by simp[qbw]);have g:=f.set 3 (int i64 x3) (by simp[qbw]);have h:=g.set 8 (.bool false) (by simp[qbw]);have i:=h.set 4 (int i64 0) (by simp[qbw]);have j:=i.set 5 (int i64 0) (by simp[qbw]);have l:=j.set 6 (int i64 0) (by simp[qbw]);have m:=l.set 7 (int i64 0) (by simp[qbw]);have n:=m.set 9 (.slice none 0 0) (by simp[qbw]);refine qxv hb (λk a=>?_) ?_ ?_ ?_ ?_ n rfl
 ·rw[Below.heap_setCell _ _ _ _ a,Below.heap_setCell _ _ _ _ a,Below.heap_setCell _ _ _ _ a,Below.heap_setCell _ _ _ _ a,Below.heap_setCell _ _ _ _ a,Below.heap_setCell _ _ _ _ a,Below.heap_setCell _ _ _ _ a,Below.heap_setCell _ _ _ _ a,Below.heap_setCell _ _ _ _ a,Below.heap_setCell _ _ _ _ a]
 ·simp only[World.setCell]
 ·simp only[World.setCell]
 ·simp only[World.setCell]
 ·simp only[World.setCell,Array.size_modify,Nat.le_refl]
theorem qjj (w:World) (h:qmo w b wv s):
 Calls Tryz.prog 35 #[.pointer (some ⟨b,0,none⟩)] w λe w'=>e=.returned (int i64 (qsu s))/\qlj w b wv (qpr s) w':=by
 have g:Hid _:=h;have i:=h.box.cell 8 _ rfl;cases ho:s.opn
 ·rw[ho]at i;have d:Hid (qsu s=6/\qpr s=s):=⟨by unfold qsu;rw[ho];rfl,by unfold qpr;rw[ho];rfl⟩;clear h ho;go_enter Tryz.func35,Tryz.ntmps35
  go_wp2_with fail
  go_ret;refine⟨by rw[d.out.1];rfl,?_⟩;rw[d.out.2];exact qlj.same g.out (Below.refl _ _)
 ·rw[ho]at i;have d:Hid (qsu s=0/\qpr s=qhe s):=⟨by unfold qsu;rw[ho];rfl,by unfold qpr;rw[ho];rfl⟩;have j:Below w.heap.size w w.drew:=(Below.refl _ w).drew;have c:=h.box.later j;clear h ho;go_enter Tryz.func35,Tryz.ntmps35
  go_wp2_with fail
  have m:=c.cell 0 _ rfl;have n:=c.cell 1 _ rfl;have o:=c.cell 2 _ rfl;have p:=c.cell 3 _ rfl;have q:=c.cell 4 _ rfl;have r:=c.cell 5 _ rfl;have t:=c.cell 6 _ rfl;have u:=c.cell 7 _ rfl
  go_region_law (refine qav rfl 83 #[.agg #[int i64 s.p0,int i64 s.p1,int i64 s.p2,int i64 s.p3],.agg #[int i64 s.s0,int i64 s.s1,int i64 s.s2,int i64 s.s3]] (by go_simp) (qq6 s.p0 s.p1 s.p2 s.p3 s.s0 s.s1 s.s2 s.s3 _) ?_
                 rintro e wa ⟨rfl,l⟩;refine⟨_,rfl,?_⟩;have k:=qab j l;have a:=g.out.box.later k;have z0:=a.cell 0 _ rfl;have v:=a.cell 1 _ rfl;have z2:=a.cell 2 _ rfl;have z3:=a.cell 3 _ rfl;have z4:=a.cell 4 _ rfl;have z5:=a.cell 5 _ rfl;have x:=a.cell 6 _ rfl;have y:=a.cell 7 _ rfl;have z:=a.cell 8 _ rfl;have z9:=a.cell 9 _ rfl;have f0:=a.free 0 (by simp[qbw]);have f1:=a.free 1 (by simp[qbw]);have f2:=a.free 2 (by simp[qbw]);have f3:=a.free 3 (by simp[qbw]);have B:=a.free 4 (by simp[qbw]);have C:=a.free 5 (by simp[qbw]);have f6:=a.free 6 (by simp[qbw]);have f7:=a.free 7 (by simp[qbw]);have f8:=a.free 8 (by simp[qbw])
                 have f9:=a.free 9 (by simp[qbw]))
  all_goals
   go_wp2_with fail
   go_ret;refine⟨by rw[d.out.1];rfl,?_⟩;rw[d.out.2];exact jcj k a _ _ _ _
end
section
open Go.Value Go.IntKind Go.RowKit
variable {b:Nat}
theorem qdv {tmps:Array Value} {w:World} {x0 x1 x2 x3 d e g i ev:Int} {a:Option Addr} {n c:Nat} (h:qag w b [int i64 x0,int i64 x1,int i64 x2,int i64 x3,int i64 d,int i64 e,int i64 g,int i64 i,.slice a n c]) (j:tmps[6]?=some (.pointer (some ⟨b,0,none⟩))) (k:tmps[7]?=some (int i64 ev)):
 (results Tryz.f81 tmps).run Tryz.prog w=.ok (.tuple #[.agg #[int i64 x0,int i64 x1,int i64 x2,int i64 x3,int i64 d,int i64 e,int i64 g,int i64 i,.slice a n c],int i64 ev]) w:=by
 obtain⟨z0,l,z2,z3,z4,z5,m,o,p⟩:=h.c9;simp[results,Tryz.results81,go_sem,j,k,z0,l,z2,z3,z4,z5,m,o,p]
theorem qno {H:Nat} {G O:Nat->Prop} {F:Nat->Option Obj} {s:qbn} {S:qaf} (now:Int) (w:World) (h:RSe w b G s) (hS:RS w H O F S) (hI:qcx S) (hd:∀k,G k->¬O k) (hp:0<=s.p0):
 Calls Tryz.prog 81 #[.pointer (some ⟨b,0,none⟩),.pointer (some ⟨H,0,none⟩),int i64 now] w (q7v w b H G O F S s now):=by
 have d:Hid (RSe w b G s/\RS w H O F S/\qcx S/\(∀k,G k->¬O k)/\0<=s.p0/\(∀k,G k->k<w.heap.size)/\∀k,O k->k<w.heap.size):=⟨h,hS,hI,hd,hp,h.lt,hS.lt⟩;obtain⟨wv,h0,hG⟩:=h;have W:Hid (∀k,G k↔(k=b\/wv.ownBlock=some k)):=hG;have HS:Hid (qmo w b wv s):=h0;have hb1:=boxed (Below.refl _ w) (.cells #[int i64 0,int i64 0,int i64 0,int i64 0,int i64 0,int i64 0,int i64 0,int i64 0,.slice none 0 0] 102);have RT:=qag.new (w:=w) (T:=102) [int i64 0,int i64 0,int i64 0,int i64 0,int i64 0,int i64 0,int i64 0,int i64 0,.slice none 0 0] rfl;change qag (w.alloc (.cells #[int i64 0,int i64 0,int i64 0,int i64 0,int i64 0,int i64 0,int i64 0,int i64 0,.slice none 0 0] 102)) w.heap.size [int i64 0,int i64 0,int i64 0,int i64 0,int i64 0,int i64 0,int i64 0,int i64 0,.slice none 0 0]at RT;have B1:=h0.box.later hb1;have k8:=B1.cell 8 _ rfl;cases ho:s.opn
 ·rw[ho]at k8;have E:Hid (qgo S s now=6/\qe7 S s now=tx0.t/\qe9 S s now=S/\qbe S s now=s):=qpg ho;clear hS hI hd hp h0 hG B1 ho;go_enter Tryz.func81,Tryz.ntmps81
  go_wp2_with fail
  refine bodyPost_ret (qdv RT rfl rfl) rfl ⟨tx0,by rw[E.out.1];rfl,E.out.2.1.symm,qo7 _,?_⟩;rw[E.out.2.2.1,E.out.2.2.2];exact⟨F,⟨λ_ _ e=>e,λk j=>absurd j (qhi k)⟩,qqt (p:=qu3 b s) (q:=qip H F S) d.out.1 d.out.2.1 d.out.2.2.2.1 hb1 _ qhi⟩
 ·rw[ho]at k8;have R:Hid (s.opn=true):=ho;have hb2:=boxed hb1 (.cells #[int i64 0,int i64 0,int i64 0,int i64 0,int i64 0,int i64 0,int i64 0,int i64 0,.slice none 0 0] 102);have AL:=qq4 ((w.alloc (.cells #[int i64 0,int i64 0,int i64 0,int i64 0,int i64 0,int i64 0,int i64 0,int i64 0,.slice none 0 0] 102)).alloc (.cells #[int i64 0,int i64 0,int i64 0,int i64 0,int i64 0,int i64 0,int i64 0,int i64 0,.slice none 0 0] 102)) (h0.later hb2);have RT2:=RT.boxed (.cells #[int i64 0,int i64 0,int i64 0,int i64 0,int i64 0,int i64 0,int i64 0,int i64 0,.slice none 0 0] 102);have RX2:=qag.new (w:=(w.alloc (.cells #[int i64 0,int i64 0,int i64 0,int i64 0,int i64 0,int i64 0,int i64 0,int i64 0,.slice none 0 0] 102))) (T:=102) (n:=w.heap.size+1) [int i64 0,int i64 0,int i64 0,int i64 0,int i64 0,int i64 0,int i64 0,int i64 0,.slice none 0 0] (by simp);change qag ((w.alloc (.cells #[int i64 0,int i64 0,int i64 0,int i64 0,int i64 0,int i64 0,int i64 0,int i64 0,.slice none 0 0] 102)).alloc (.cells #[int i64 0,int i64 0,int i64 0,int i64 0,int i64 0,int i64 0,int i64 0,int i64 0,.slice none 0 0] 102)) (w.heap.size+1) [int i64 0,int i64 0,int i64 0,int i64 0,int i64 0,int i64 0,int i64 0,int i64 0,.slice none 0 0]at RX2;clear hS hI hd hp h0 hG B1 ho RT;go_enter Tryz.func81,Tryz.ntmps81
  go_wp2_with fail
  refine AL.mono ?_;rintro e L ⟨v,rfl,ownv,hbv⟩;obtain⟨va,vc,rfl,hWv⟩:=qdn ownv
  have HNA:Hid (∀k off,(qb6 s.ws)≠[]->va=some ⟨k,off,none⟩->w.heap.size+2<=k):=λk off hne e=>by
   have:=ownv.form (List.length_pos_iff.2 hne);obtain⟨g,cc,e1,e2,e3⟩:=this;injection e1 with e1;rw[e1]at e;injection e with e;injection e with e;simp at e2;omega
  have X:=qab hb2 hbv;have RTA:=RT2.later hbv;have RXA:=RX2.later hbv
  have HSZ:Hid (w.heap.size+2<=L.heap.size):=by have:=hbv.size;simp at this;exact this
  have HWV:Hid (qaz L va vc (qb6 s.ws)):=hWv;have hcl:=hWv.len;have hcc:=hWv.cap
  have HN2:Hid (∀k,(k=w.heap.size\/k=w.heap.size+1)->w.heap.size<=k/\k<L.heap.size):=λk e=>by
   have:=HSZ.out
   rcases e with e|e<;>omega
  clear AL k8 RT2 RX2 hb1 hb2 hbv ownv hWv;by_cases hl:(qb6 s.ws).length=0
  ·have E:Hid (qgo S s now=0/\qe7 S s now=tx0.t/\qe9 S s now=S/\qbe S s now=qhe s):=qo4 R.out hl
   have l0:¬(0:Int)<((qb6 s.ws).length:Int):=by omega
   have AB:=qjj L (HS.out.later X);clear hl
   go_wp2_with fail
   refine AB.mono ?_;rintro e wD ⟨rfl,Z⟩;rw[show qpr s=qhe s by unfold qpr;rw[if_neg (by rw[R.out];decide)]]at Z;rw[show qsu s=0 by unfold qsu;rw[if_neg (by rw[R.out];decide)]];have HPO:Hid (qlj L b wv (qhe s) wD):=Z;obtain⟨wv',hs',_,J⟩:=Z
   have U:∀k,w.heap.size<=k->¬(k=b\/wv.ownBlock=some k):=λk j e=>by have:=d.out.2.2.2.2.2.1 k ((W.out k).2 e);omega
   have aa:=RTA.kept (J.block _ RTA.lt (U _ (Nat.le_refl _))) J.size;have K:=RXA.kept (J.block _ RXA.lt (U _ (Nat.le_succ _))) J.size;have x0:=Later.cell (K.cell 0 _ rfl);have x1:=Later.cell (K.cell 1 _ rfl);have y0:∀x:Later wD,x.val.cell? ⟨b,0,none⟩=some (int i64 (qb9 s.p0 s.s0)):=Later.cell (hs'.box.cell 0 _ rfl);have hne:=Later.one;have g0:decide (qb9 s.p0 s.s0<0)=false:=decide_eq_false (by have:=d.out.2.2.2.2.1;unfold qb9;split<;>omega);clear AB J U
   go_wp2_with fail
   refine qaa (by kernel_rfl) (by kernel_rfl) ?_
   repeat (go_big_quiet_step (first|rfl|fail))
   refine wpQuiet_nil ?_;rintro w3 ⟨⟨_,I⟩,rfl⟩;have RTF:=aa.later I;have RXF:=K.later I;clear x0 x1 y0 hs' aa K;obtain⟨x0,x1,x2,x3,x4,x5,x6,x7,x8⟩:=RXF.c9;obtain⟨r0,r1,r2,r3,r4,r5,r6,r7,r8⟩:=RTF.c9;obtain⟨p0,p1,p2,p3,p4,p5,p6,p7,p8⟩:=RTF.f9;have RZ:=qb3 RTF rfl 0 0 0 0 0 0 0 0 (.slice none 0 0);have P:=qk7 (p:=qu3 b (qhe s)) (q:=qip H F S) (Y:=tx0.blk) d.out.2.2.2.2.2.1 d.out.2.2.2.2.2.2 d.out.2.2.2.1 X HN2.out (RPo.same (d.out.2.1.later X) (Below.refl _ _)) (λk j=>absurd j (qhi k)) (qae.ofBelow (Below.refl _ _)) ((HPO.out.after I).left W.out) (qcu (b:=w.heap.size) (qae.ofBelow (Below.refl _ w3)) (.inl rfl) 0 0 0 0 0 0 0 0 (.slice none 0 0));clear RTF RXF HPO
   go_wp2_with fail
   refine bodyPost_ret (qdv RZ rfl rfl) rfl ⟨tx0,by rw[E.out.1];rfl,E.out.2.1.symm,qo7 _,?_⟩;rw[E.out.2.2.1,E.out.2.2.2];exact⟨F,⟨λ_ _ e=>e,λk j=>absurd j (qhi k)⟩,P.1⟩
  ·have HY:Hid (qgo S s now=qnc S now s.s0 s.s1 s.s2 s.s3 (qb6 s.ws)/\qe7 S s now=qo6 S now s.s0 s.s1 s.s2 s.s3 (qb6 s.ws)/\qe9 S s now=qmt S now s.s0 s.s1 s.s2 s.s3 (qb6 s.ws)):=qlm R.out hl;have HLN:Hid ((qb6 s.ws).length≠0):=hl
   have l0:(0:Int)<((qb6 s.ws).length:Int):=by omega
   have CM:=qw1 now s.s0 s.s1 s.s2 s.s3 L (d.out.2.1.later X) d.out.2.2.1 HWV.out (λk off e1 e2 hg=>by have:=HNA.out k off e1 e2;have:=d.out.2.2.2.2.2.2 k hg;omega);have BA:=HS.out.box.later X;have c4:=BA.cell 4 _ rfl;have c5:=BA.cell 5 _ rfl;have c6:=BA.cell 6 _ rfl;have c7:=BA.cell 7 _ rfl;have HBA:Hid (Below w.heap.size w L):=X;obtain⟨⟨a,c,l,o,r,u,y,z,i⟩,hct⟩:∃t,qo6 S now s.s0 s.s1 s.s2 s.s3 (qb6 s.ws)=t:=⟨_,rfl⟩;obtain⟨ce,hce⟩:∃ce,qnc S now s.s0 s.s1 s.s2 s.s3 (qb6 s.ws)=ce:=⟨_,rfl⟩;clear hl X
   go_wp2_with fail
   refine CM.mono ?_;rintro e wB ⟨⟨mt,B,C⟩,rfl,hmt,hh,hnew⟩;rw[hct]at hmt;simp only at hmt;subst hmt;rw[hce,show txV ⟨⟨a,c,l,o,r,u,y,z,i⟩,B,C⟩=.agg #[int i64 a,int i64 c,int i64 l,int i64 o,int i64 r,int i64 u,int i64 y,int i64 z,.slice B i.length C]from rfl];obtain⟨hWB,F',hFE,hPB⟩:=hh.out;have HFE:Hid (jd3 F ⟨⟨a,c,l,o,r,u,y,z,i⟩,B,C⟩ F'):=hFE;clear hFE;have M:Hid (RPo L H O F' (qmt S now s.s0 s.s1 s.s2 s.s3 (qb6 s.ws)) wB/\qaz wB B C i/\(∀k,(⟨⟨a,c,l,o,r,u,y,z,i⟩,B,C⟩:TxM).blk k->L.heap.size<=k)):=⟨hPB,hWB,hnew⟩;obtain⟨H1,_,_,tB⟩:=hPB
   have nX:∀k,w.heap.size<=k->¬O k:=λk j e=>by have:=d.out.2.2.2.2.2.2 k e;omega
   have RTB:=RTA.kept (tB.block _ RTA.lt (nX _ (Nat.le_refl _))) tB.size;have RXB:=RXA.kept (tB.block _ RXA.lt (nX _ (Nat.le_succ _))) tB.size;clear c4 c5 c6 c7 BA CM RTA RXA tB nX hh hWB hnew;obtain⟨x0,x1,x2,x3,x4,x5,x6,x7,x8⟩:=RXB.c9;obtain⟨q0,q1,q2,q3,q4,q5,q6,q7,q8⟩:=RXB.f9;have RXC:=qb3 RXB rfl a c l o r u y z (.slice B i.length C);have Q:=qvq RTB (by omega:w.heap.size≠w.heap.size+1) a c l o r u y z (.slice B i.length C);have TC:qae (λk=>k=w.heap.size\/k=w.heap.size+1) wB (qbu wB (w.heap.size+1) a c l o r u y z (.slice B i.length C)):=qcu (qae.ofBelow (Below.refl _ wB)) (.inr rfl) a c l o r u y z (.slice B i.length C);obtain⟨WC,hWC⟩:∃WC,qbu wB (w.heap.size+1) a c l o r u y z (.slice B i.length C)=WC:=⟨_,rfl⟩;rw[hWC]at RXC Q TC;simp only[qbu]at hWC;clear RXB RTB
   have hsC:qmo WC b wv s:=by
     have mid:=q4m (q:=qip H F' (qmt S now s.s0 s.s1 s.s2 s.s3 (qb6 s.ws))) d.out.2.2.2.2.2.1 d.out.2.2.2.1 HBA.out HN2.out M.out.1 TC;exact HS.out.keptB (λk e=>mid.1 k ((W.out k).2 e)) mid.2
   have U:∀k,w.heap.size<=k->¬(k=b\/wv.ownBlock=some k):=λk j e=>by have:=d.out.2.2.2.2.2.1 k ((W.out k).2 e);omega
   by_cases hE:ce=0
   ·subst hE
    have E:Hid (qbe S s now=atLeast a c (qhe s)/\a=S.id):=by
       have:=qub (S:=S) (s:=s) (now:=now) R.out HLN.out hce;rw[hct]at this;exact this
    have V:Hid (qgo S s now=0/\qe7 S s now=⟨a,c,l,o,r,u,y,z,i⟩):=⟨HY.out.1.trans hce,HY.out.2.1.trans hct⟩
    have i0:0<=a:=by rw[E.out.2];exact d.out.2.2.1.id0
    have i3:a<=3:=by rw[E.out.2];exact d.out.2.2.1.id3
    have i4:a<4:=by omega
    have AB:=qjj WC hsC
    go_wp2_with (rw[hWC])
    refine AB.mono ?_;rintro e wD ⟨rfl,Z⟩;rw[show qpr s=qhe s by unfold qpr;rw[if_neg (by rw[R.out];decide)]]at Z;rw[show qsu s=0 by unfold qsu;rw[if_neg (by rw[R.out];decide)]];have HPO:Hid (qlj WC b wv (qhe s) wD):=Z;obtain⟨wv',hs',_,J⟩:=Z;have aa:=Q.kept (J.block _ Q.lt (U _ (Nat.le_refl _))) J.size;have K:=RXC.kept (J.block _ RXC.lt (U _ (Nat.le_succ _))) J.size;obtain⟨D,hD⟩:∃D,qaq a (qhe s).p0 (qhe s).p1 (qhe s).p2 (qhe s).p3=D:=⟨_,rfl⟩;have HB':Hid (qag wD b (qbw (qhe s) wv')):=hs'.box
    have HPA:Hid ((qbw (qhe s) wv')[a.toNat]?=some (int i64 D)):=by show _=_;rw[jbd i0 i3,hD]
    have HD:Hid (qaq a (qhe s).p0 (qhe s).p1 (qhe s).p2 (qhe s).p3=D):=hD;clear q0 q1 q2 q3 q4 q5 q6 q7 q8 x0 x1 x2 x3 x4 x5 x6 x7 x8 hct hce J hs' hD AB;have x0:=Later.cell (K.cell 0 _ rfl);have x1:=Later.cell (K.cell 1 _ rfl);have y0:=Later.cell (HB'.out.cell _ _ HPA.out);have hne:=Later.one;by_cases hlt:D<c
    ·have HS2:Hid (qbe S s now=qth a.toNat c (qhe s)):=by show _=_;rw[E.out.1,qm9 i0 i3,HD.out,qj1 hlt]
     go_wp2_with fail
     refine qaa (by kernel_rfl) (by kernel_rfl) ?_
     repeat (go_big_quiet_step (first|rfl|fail))
     refine wpQuiet_nil ?_;rintro w3 ⟨⟨_,I⟩,rfl⟩;clear x0 x1 y0;have B3:=HB'.out.later I;have RT3:=aa.later I;have RX3:=K.later I;have x0:=RX3.cell 0 _ rfl;have x1:=RX3.cell 1 _ rfl;have y0:=B3.cell _ _ HPA.out;have g0:=B3.free a.toNat (by simp[qbw];omega)
     go_wp2_with fail
     go_region
     all_goals
        have P4:=((HPO.out.after I).past (n:=a.toNat) (by omega) c).after ((Below.refl _ (w3.setCell ⟨b,a.toNat,none⟩ (int i64 c))).drew);have bne:b≠w.heap.size:=λe=>U b (by omega) (.inl rfl);have bne1:b≠w.heap.size+1:=λe=>U b (by omega) (.inl rfl);have N:=(RT3.far ⟨b,a.toNat,none⟩ (int i64 c) bne).drew;have RX4:=(RX3.far ⟨b,a.toNat,none⟩ (int i64 c) bne1).drew;obtain⟨W4,hW4⟩:∃W4,(w3.setCell ⟨b,a.toNat,none⟩ (int i64 c)).drew=W4:=⟨_,rfl⟩;rw[hW4]at P4 N RX4
        (try rw[hW4])
        clear x0 x1 y0 g0 B3 RT3 RX3 aa K Q RXC;obtain⟨x0,x1,x2,x3,x4,x5,x6,x7,x8⟩:=RX4.c9;obtain⟨r0,r1,r2,r3,r4,r5,r6,r7,r8⟩:=N.c9;obtain⟨p0,p1,p2,p3,p4,p5,p6,p7,p8⟩:=N.f9;have RZ:=qb3 N rfl a c l o r u y z (.slice B i.length C);have P:=qk7 (p:=qu3 b (qth a.toNat c (qhe s))) (q:=qip H F' (qmt S now s.s0 s.s1 s.s2 s.s3 (qb6 s.ws))) (Y:=(⟨⟨a,c,l,o,r,u,y,z,i⟩,B,C⟩:TxM).blk) d.out.2.2.2.2.2.1 d.out.2.2.2.2.2.2 d.out.2.2.2.1 HBA.out HN2.out M.out.1 (λk j=>⟨M.out.2.2 k j,qaz.blk_lt (m:=(⟨⟨a,c,l,o,r,u,y,z,i⟩,B,C⟩:TxM)) M.out.2.1 k j⟩) TC (P4.left W.out) (qcu (b:=w.heap.size) (qae.ofBelow (Below.refl _ W4)) (.inl rfl) a c l o r u y z (.slice B i.length C));have WF:=qaz.kept (m:=(⟨⟨a,c,l,o,r,u,y,z,i⟩,B,C⟩:TxM)) M.out.2.1 (λk j=>P.2 k j);clear N RX4
        go_wp2_with (rw[hW4])
        refine bodyPost_ret (qdv RZ rfl rfl) rfl ⟨(⟨⟨a,c,l,o,r,u,y,z,i⟩,B,C⟩:TxM),by rw[V.out.1];rfl,V.out.2.symm,WF,?_⟩;rw[HY.out.2.2,HS2.out];exact⟨F',HFE.out,P.1⟩
    ·have HS2:Hid (qbe S s now=qhe s):=by show _=_;rw[E.out.1,qy2 i0 i3 (by rw[HD.out];exact hlt)]
     go_wp2_with fail
     refine qaa (by kernel_rfl) (by kernel_rfl) ?_
     repeat (go_big_quiet_step (first|rfl|fail))
     refine wpQuiet_nil ?_;rintro w3 ⟨⟨_,I⟩,rfl⟩;clear x0 x1 y0;have P4:=HPO.out.after I;have N:=aa.later I;have RX4:=K.later I;obtain⟨x0,x1,x2,x3,x4,x5,x6,x7,x8⟩:=RX4.c9;obtain⟨r0,r1,r2,r3,r4,r5,r6,r7,r8⟩:=N.c9;obtain⟨p0,p1,p2,p3,p4,p5,p6,p7,p8⟩:=N.f9;have RZ:=qb3 N rfl a c l o r u y z (.slice B i.length C);have P:=qk7 (p:=qu3 b (qhe s)) (q:=qip H F' (qmt S now s.s0 s.s1 s.s2 s.s3 (qb6 s.ws))) (Y:=(⟨⟨a,c,l,o,r,u,y,z,i⟩,B,C⟩:TxM).blk) d.out.2.2.2.2.2.1 d.out.2.2.2.2.2.2 d.out.2.2.2.1 HBA.out HN2.out M.out.1 (λk j=>⟨M.out.2.2 k j,qaz.blk_lt (m:=(⟨⟨a,c,l,o,r,u,y,z,i⟩,B,C⟩:TxM)) M.out.2.1 k j⟩) TC (P4.left W.out) (qcu (b:=w.heap.size) (qae.ofBelow (Below.refl _ w3)) (.inl rfl) a c l o r u y z (.slice B i.length C));have WF:=qaz.kept (m:=(⟨⟨a,c,l,o,r,u,y,z,i⟩,B,C⟩:TxM)) M.out.2.1 (λk j=>P.2 k j);clear N RX4 aa K Q RXC
     go_wp2_with fail
     refine bodyPost_ret (qdv RZ rfl rfl) rfl ⟨(⟨⟨a,c,l,o,r,u,y,z,i⟩,B,C⟩:TxM),by rw[V.out.1];rfl,V.out.2.symm,WF,?_⟩;rw[HY.out.2.2,HS2.out];exact⟨F',HFE.out,P.1⟩
   ·have E:Hid (qbe S s now=s/\qmt S now s.s0 s.s1 s.s2 s.s3 (qb6 s.ws)=S/\qo6 S now s.s0 s.s1 s.s2 s.s3 (qb6 s.ws)=tx0.t):=qsb R.out HLN.out (by rw[hce];exact hE);have V:Hid (qgo S s now=ce/\qe7 S s now=tx0.t/\qe9 S s now=S):=⟨HY.out.1.trans hce,HY.out.2.1.trans E.out.2.2,HY.out.2.2.trans E.out.2.1⟩
    have HPS:Hid (RPo L H O F' S wB):=by have:=M.out.1;rw[E.out.2.1]at this;exact this
    have RZ:=qb3 Q rfl 0 0 0 0 0 0 0 0 (.slice none 0 0);have P:=qk7 (p:=qu3 b s) (q:=qip H F' S) (Y:=tx0.blk) d.out.2.2.2.2.2.1 d.out.2.2.2.2.2.2 d.out.2.2.2.1 HBA.out HN2.out HPS.out (λk j=>absurd j (qhi k)) TC ((qlj.same hsC (Below.refl _ _)).left W.out) (qcu (b:=w.heap.size) (qae.ofBelow (Below.refl _ WC)) (.inl rfl) 0 0 0 0 0 0 0 0 (.slice none 0 0));clear hct hce;obtain⟨r0,r1,r2,r3,r4,r5,r6,r7,r8⟩:=Q.c9;obtain⟨p0,p1,p2,p3,p4,p5,p6,p7,p8⟩:=Q.f9;clear Q RXC
    go_wp2_with (rw[hWC])
    refine bodyPost_ret (qdv RZ rfl rfl) rfl ⟨tx0,by rw[V.out.1];rfl,V.out.2.1.symm,qo7 _,?_⟩;rw[E.out.1,V.out.2.2];exact⟨F',⟨HFE.out.1,λk j=>absurd j (qhi k)⟩,P.1⟩
end
section
open Go.Value Go.IntKind Go.RowKit
variable {b:Nat}
theorem qe5 {tmps:Array Value} {w:World} {x0 x1 x2 x3 d e g i:Int} {ev:Value} {a:Option Addr} {n c:Nat} (h:qag w b [int i64 x0,int i64 x1,int i64 x2,int i64 x3,int i64 d,int i64 e,int i64 g,int i64 i,.slice a n c]) (j:tmps[4]?=some (.pointer (some ⟨b,0,none⟩))) (k:tmps[5]?=some ev):
 (results Tryz.f103 tmps).run Tryz.prog w=.ok (.tuple #[.agg #[int i64 x0,int i64 x1,int i64 x2,int i64 x3,int i64 d,int i64 e,int i64 g,int i64 i,.slice a n c],ev]) w:=by
 obtain⟨z0,l,z2,z3,z4,z5,m,o,p⟩:=h.c9;simp[results,Tryz.results103,go_sem,j,k,z0,l,z2,z3,z4,z5,m,o,p]
theorem q4k {G:Nat->Prop} {W:WoS} (w:World) (h:PW w b G W) (hw:WfW W) {i:Nat} (hi:i<W.c) (hok:0<(wcT W i).seq->okT (wcT W i)=true):
 Calls Tryz.prog 103 #[.pointer (some ⟨b,0,none⟩),int i64 i] w (jbv w b G W i):=by
 obtain⟨M,I,h,hG⟩:=h;have ha:=hw.at_ i hi;have x:Hid (PWo w b M W I/\(∀k,G k↔ql7 b M (W.n+W.c) I k)/\i<W.c/\W.at_ i<W.n/\W.n<=4/\(0<(wcT W i).seq->okT (wcT W i)=true)):=⟨h,hG,hi,ha,hw.n4,hok⟩;have hb0:=boxed (Below.refl _ w) (.cells #[int i64 0,int i64 0,int i64 0,int i64 0,int i64 0,int i64 0,int i64 0,int i64 0,.slice none 0 0] 102);have RT:=qag.new (w:=w) (T:=102) [int i64 0,int i64 0,int i64 0,int i64 0,int i64 0,int i64 0,int i64 0,int i64 0,.slice none 0 0] rfl;change qag (w.alloc (.cells #[int i64 0,int i64 0,int i64 0,int i64 0,int i64 0,int i64 0,int i64 0,int i64 0,.slice none 0 0] 102)) w.heap.size [int i64 0,int i64 0,int i64 0,int i64 0,int i64 0,int i64 0,int i64 0,int i64 0,.slice none 0 0]at RT;obtain⟨cb,cc,c1,hcc,hcb,x0,x1⟩:=h.client hi;obtain⟨pb,pc,c0,hpc,hpb,y0,y1⟩:=h.place ha;have hlt:=h.box.lt;have IC:=qbd (k:=i) (v:=true) _ (cell_later hb0 c1) (by simp;omega)
 have BG:Hid (∀w':World,Below w.heap.size w w'->Calls Tryz.prog 150 #[.pointer (some ⟨M.bs i,0,none⟩),.pointer (some ⟨M.bp (W.at_ i),0,none⟩),int i64 (W.wall (W.at_ i))] w' λe z=>∃(l j o p q r s u:Int) (a:List Wr) (d:Option Addr) (g:Nat),e=.returned (.tuple #[.agg #[int i64 l,int i64 j,int i64 o,int i64 p,int i64 q,int i64 r,int i64 s,int i64 u,.slice d a.length g],qbq (wcE W i)])/\Hid (⟨l,j,o,p,q,r,s,u,a⟩=wcT W i/\qaz z d g a/\Below w.heap.size w w'/\qki (qr3 (M.bs i) (qbe (W.S (W.at_ i)) (W.ses i) (W.wall (W.at_ i)))) (qiy (M.bp (W.at_ i)) (qe9 (W.S (W.at_ i)) (W.ses i) (W.wall (W.at_ i))) (⟨⟨l,j,o,p,q,r,s,u,a⟩,d,g⟩:TxM).blk) w' (I (W.n+i)) (I (W.at_ i)) (⟨⟨l,j,o,p,q,r,s,u,a⟩,d,g⟩:TxM).blk z)/\(∀k,w.heap.size<=k->k<w'.heap.size->z.heap[k]?=w'.heap[k]?)/\w'.heap.size<=z.heap.size):=λw' hb=>by
  refine(qp9 (W.wall (W.at_ i)) w' ((h.sess hi).later hb) ((h.site ha).later hb) (hw.inv _ ha) (λk h1 h2=>h.fam.apart _ _ k (by omega) (by omega) (by omega) h1 h2)).mono ?_;rintro e z ⟨⟨⟨l,j,o,p,q,r,s,u,a⟩,d,g⟩,rfl,O,U⟩;have h2:=U.out.2;obtain⟨_,_,_,_,_,_,_,_,tt⟩:=h2
  exact⟨l,j,o,p,q,r,s,u,a,d,g,rfl,⟨O,U.out.1,hb,U.out.2⟩,λk h1 h2=>tt.block k h2 (λe=>by
   rcases e with e|e
   ·have:k<w.heap.size:=h.ltG (by omega) e;omega
   ·have:k<w.heap.size:=h.ltG (by omega) e
    omega),tt.size⟩
 have q1:(i:Int)<(W.c:Int):=by omega
 have q2:(W.at_ i:Int)<(W.n:Int):=by omega
 have hbc:=boxed hb0 (.cells #[.pointer (some ⟨M.bs i,0,none⟩),int i64 (W.at_ i)] 171);have RC:=qag.new (w:=w.alloc (.cells #[int i64 0,int i64 0,int i64 0,int i64 0,int i64 0,int i64 0,int i64 0,int i64 0,.slice none 0 0] 102)) (T:=171) (n:=w.heap.size+1) [.pointer (some ⟨M.bs i,0,none⟩),int i64 (W.at_ i)] (by simp);have RT1:=RT.boxed (.cells #[.pointer (some ⟨M.bs i,0,none⟩),int i64 (W.at_ i)] 171);obtain⟨F,hw1⟩:∃F,(w.alloc (.cells #[int i64 0,int i64 0,int i64 0,int i64 0,int i64 0,int i64 0,int i64 0,int i64 0,.slice none 0 0] 102)).alloc (.cells #[.pointer (some ⟨M.bs i,0,none⟩),int i64 (W.at_ i)] 171)=F:=⟨_,rfl⟩
 have sz1:F.heap.size=w.heap.size+2:=by rw[<-hw1];simp
 have RC1:qag F (w.heap.size+1) [.pointer (some ⟨M.bs i,0,none⟩),int i64 (W.at_ i)]:=by rw[<-hw1];exact RC
 have HR:Hid (qag F w.heap.size [int i64 0,int i64 0,int i64 0,int i64 0,int i64 0,int i64 0,int i64 0,int i64 0,.slice none 0 0]/\Below w.heap.size w F/\F.heap.size=w.heap.size+2):=by
  rw[hw1]at RT1 hbc;exact⟨RT1,hbc,sz1⟩
 have d0:=cell_later HR.out.2.1 c0;have e0:=cell_later HR.out.2.1 y0;have e1:=cell_later HR.out.2.1 y1;have f0:=RC1.cell 0 _ rfl;have f1:=RC1.cell 1 _ rfl
 have hlt1:b<F.heap.size:=by omega
 have hpb1:pb<F.heap.size:=by omega
 have hc1:w.heap.size+1<F.heap.size:=by omega
 clear RT RC RT1 sz1 RC1 hbc;clear h hG hw hok;go_enter Tryz.func103,Tryz.ntmps103
 go_wp2_with fail
 refine IC.mono ?_;rintro e w2 ⟨rfl,hw2⟩;have hw3:=hw2.symm;clear hw2 IC;subst hw3
 go_wp2_with fail
 try rw[hw1]
 clear hw1 c0 c1 x0 x1 y0 y1 hcb hpb hlt hb0
 go_region
 have hbp:=(boxed (Below.refl _ F) (.cells #[.pointer (some ⟨M.bp (W.at_ i),0,none⟩),int i64 (W.wall (W.at_ i))] 167)).drew;have RP:=(qag.new (w:=F) (T:=167) [.pointer (some ⟨M.bp (W.at_ i),0,none⟩),int i64 (W.wall (W.at_ i))] rfl).drew;change qag (F.alloc (.cells #[.pointer (some ⟨M.bp (W.at_ i),0,none⟩),int i64 (W.wall (W.at_ i))] 167)).drew F.heap.size [.pointer (some ⟨M.bp (W.at_ i),0,none⟩),int i64 (W.wall (W.at_ i))]at RP;have g0:=RP.cell 0 _ rfl;have g1:=RP.cell 1 _ rfl;have f0:=cell_later hbp f0;have f1:=cell_later hbp f1;have hb2:=qab HR.out.2.1 hbp;have RT2:=HR.out.1.later hbp;have CM:=BG.out _ hb2;clear BG RP
 go_wp2_with fail
 refine CM.mono ?_;rintro e z ⟨l,j,o,p,q,r,s,u,a,d,g,rfl,U,hkB,hsB⟩;have HRB:Hid _:=RT2.kept (hkB _ (Nat.le_refl _) RT2.lt) hsB;have HM:Hid _:=U.out.1;have HX:Hid (∃w',w.heap.size<w'.heap.size/\qaz z d g a/\Below w.heap.size w w'/\qki (qr3 (M.bs i) (qbe (W.S (W.at_ i)) (W.ses i) (W.wall (W.at_ i)))) (qiy (M.bp (W.at_ i)) (qe9 (W.S (W.at_ i)) (W.ses i) (W.wall (W.at_ i))) (⟨⟨l,j,o,p,q,r,s,u,a⟩,d,g⟩:TxM).blk) w' (I (W.n+i)) (I (W.at_ i)) (⟨⟨l,j,o,p,q,r,s,u,a⟩,d,g⟩:TxM).blk z):=⟨_,RT2.lt,U.out.2⟩;clear CM U hkB hsB RT2 hb2 hbp f0 f1 g0 g1 d0 e0 e1 HR hlt1 hpb1 hc1;obtain⟨ce,hce⟩:∃ce,wcE W i=ce:=⟨_,rfl⟩;rw[hce];have hbC:=boxed (Below.refl _ z) (.cells #[int i64 l,int i64 j,int i64 o,int i64 p,int i64 q,int i64 r,int i64 s,int i64 u,.slice d a.length g] 102);have V:=qag.new (w:=z) (T:=102) [int i64 l,int i64 j,int i64 o,int i64 p,int i64 q,int i64 r,int i64 s,int i64 u,.slice d a.length g] rfl;change qag (z.alloc (.cells #[int i64 l,int i64 j,int i64 o,int i64 p,int i64 q,int i64 r,int i64 s,int i64 u,.slice d a.length g] 102)) z.heap.size [int i64 l,int i64 j,int i64 o,int i64 p,int i64 q,int i64 r,int i64 s,int i64 u,.slice d a.length g]at V;have J:=HRB.out.later hbC;have htl:w.heap.size<z.heap.size:=HRB.out.lt;obtain⟨y,hWC⟩:∃y,z.alloc (.cells #[int i64 l,int i64 j,int i64 o,int i64 p,int i64 q,int i64 r,int i64 s,int i64 u,.slice d a.length g] 102)=y:=⟨_,rfl⟩
 have HWX:Hid (∃B H,w.heap.size<B/\B<=y.heap.size/\PWo y b M (qkv W i) H/\(∀m k,H m k->I m k\/B<=k)/\qae (λk=>I (W.n+i) k\/I (W.at_ i) k) w y/\(∀m k,m<W.n+W.c->(⟨⟨l,j,o,p,q,r,s,u,a⟩,d,g⟩:TxM).blk k->B<=k/\k<z.heap.size/\¬H m k)/\qaz y d g a/\z.heap.size<y.heap.size):=by
  obtain⟨w',hlw,hwi,hbw,hl2⟩:=HX.out;have hl3:=hl2;obtain⟨_,_,_,_,_,_,_,_,tt⟩:=hl3;have ts:=tt.size
  have hs4:z.heap.size<y.heap.size:=by rw[<-hWC];simp
  rw[hWC]at hbC;obtain⟨H,K,L,N,D⟩:=x.out.1.com x.out.2.2.1 x.out.2.2.2.1 hbw hl2 hbC;exact⟨w'.heap.size,H,hlw,by omega,K,L,N,D,hwi.later hbC,hs4⟩
 rw[hWC]at V J;clear hbC HX HRB;by_cases hE:ce=0
 ·subst hE;rw[show qbq 0=.nilIface from rfl];obtain⟨x0,x1,x2,x3,x4,x5,x6,x7,x8⟩:=V.c9;by_cases hsq:0<j
  ·have HT:Hid (∀H,PWo y b M (qkv W i) H->(∀k,(⟨⟨l,j,o,p,q,r,s,u,a⟩,d,g⟩:TxM).blk k->w.heap.size<=k)->qaz y d g a->Calls Tryz.prog 151 #[.pointer (some ⟨b,0,none⟩),.agg #[int i64 l,int i64 j,int i64 o,int i64 p,int i64 q,int i64 r,int i64 s,int i64 u,.slice d a.length g]] y λe w'=>e=.returned (.tuple #[])/\qh2 y b M H (λk=>y.heap.size<=k) (qec ⟨l,j,o,p,q,r,s,u,a⟩ W.n (qkv W i)) w'):=λH h1 h3 h4=>
        q6j l j o p q r s u a d g y h1 x.out.2.2.2.2.1 h4 (λk off e1 e2=>by
         have:=h3 k ⟨e1,off,e2⟩;refine⟨λe=>?_,λe=>?_⟩
         ·have:k<w.heap.size:=x.out.1.ltF k (.inl e);omega
         ·have:k<w.heap.size:=x.out.1.ltF k (.inr (.inr (.inr (.inl e))))
          omega) (by
         have:=x.out.2.2.2.2.2;rw[<-HM.out]at this
         exact this hsq)
   obtain⟨B,H,rB,rC,K,L,N,D,Q,X⟩:=HWX.out;have TL:=HT.out H K (λk C=>by have:=(D (W.at_ i) k (by omega) C).1;omega) Q
   have HF:Hid (∀P,qh2 y b M H (λk=>y.heap.size<=k) (qec ⟨l,j,o,p,q,r,s,u,a⟩ W.n (qkv W i)) P->∃E,PW P b E (wcW W i)/\(∀k,E k->G k\/B<=k)/\qae G w P/\∀k,(⟨⟨l,j,o,p,q,r,s,u,a⟩,d,g⟩:TxM).blk k->B<=k/\¬E k):=λP hs=>by
        have e:wcW W i=qec ⟨l,j,o,p,q,r,s,u,a⟩ W.n (qkv W i):=by
         unfold wcW;rw[<-HM.out,if_pos hsq]
        rw[e];have sm:=qce ⟨l,j,o,p,q,r,s,u,a⟩ W.n (qkv W i);exact x.out.1.told x.out.2.1 x.out.2.2.1 x.out.2.2.2.1 sm.n sm.c (by omega) rC L N (λm k O C=>⟨(D m k O C).1,by have:=(D m k O C).2.1;omega,(D m k O C).2.2⟩) hs
   have Z:Hid (qaz y d g a/\(∀k,(⟨⟨l,j,o,p,q,r,s,u,a⟩,d,g⟩:TxM).blk k->w.heap.size<=k/\k<z.heap.size)/\z.heap.size<y.heap.size):=⟨Q,λk C=>⟨by have:=(D (W.at_ i) k (by omega) C).1;omega,(D (W.at_ i) k (by omega) C).2.1⟩,X⟩;have HNO:Hid (∀k,w.heap.size<=k->k≠b/\M.nv.ownBlock≠some k):=λk C=>⟨λe=>by have:k<w.heap.size:=x.out.1.ltF k (.inl e);omega,λe=>by have:k<w.heap.size:=x.out.1.ltF k (.inr (.inr (.inr (.inl e))));omega⟩;have HBB:Hid (w.heap.size<B/\∀k,G k->k<w.heap.size):=⟨rB,PW.lt ⟨M,I,x.out.1,x.out.2.1⟩⟩;clear HT K L N D Q X HWX rB rC
   go_wp2_with (rw[hWC])
   refine TL.mono ?_;rintro e P ⟨rfl,hS⟩;have XD:=V.kept (hS.block (by have:=Z.out.2.2;omega) (HNO.out _ (by omega)).1 (HNO.out _ (by omega)).2) hS.size;have TD:=J.kept (hS.block (by have:=Z.out.2.2;omega) (HNO.out _ (Nat.le_refl _)).1 (HNO.out _ (Nat.le_refl _)).2) hS.size;have FIN:=HF.out P hS;have WD:qaz P d g a:=qaz.kept (m:=(⟨⟨l,j,o,p,q,r,s,u,a⟩,d,g⟩:TxM)) Z.out.1 (λk C=>hS.block (by have:=Z.out.2.1 k C;have:=Z.out.2.2;omega) (HNO.out k (Z.out.2.1 k C).1).1 (HNO.out k (Z.out.2.1 k C).1).2);have R:Hid (qaz P d g a/\∃E,PW P b E (wcW W i)/\(∀k,E k->G k\/B<=k)/\qae G w P/\∀k,(⟨⟨l,j,o,p,q,r,s,u,a⟩,d,g⟩:TxM).blk k->B<=k/\¬E k):=⟨WD,FIN⟩;clear x0 x1 x2 x3 x4 x5 x6 x7 x8 TL HF hS FIN WD V J;obtain⟨x0,x1,x2,x3,x4,x5,x6,x7,x8⟩:=XD.c9;obtain⟨r0,K,L,N,D,Q,X,r7,r8⟩:=TD.c9;obtain⟨p0,p1,p2,p3,p4,p5,p6,p7,p8⟩:=TD.f9;have RZ:=qb3 TD rfl l j o p q r s u (.slice d a.length g);have END:=q1t (m:=(⟨⟨l,j,o,p,q,r,s,u,a⟩,d,g⟩:TxM)) R.out HBB.out.2 HBB.out.1 l j o p q r s u (.slice d a.length g);clear R XD TD
   go_wp2_with fail
   exact bodyPost_ret (qe5 RZ rfl rfl) rfl ⟨(⟨⟨l,j,o,p,q,r,s,u,a⟩,d,g⟩:TxM),by rw[hce];rfl,HM.out,END⟩
  ·have R:Hid (∃B,w.heap.size<B/\(∀k,G k->k<w.heap.size)/\qaz y d g a/\∃E,PW y b E (wcW W i)/\(∀k,E k->G k\/B<=k)/\qae G w y/\∀k,(⟨⟨l,j,o,p,q,r,s,u,a⟩,d,g⟩:TxM).blk k->B<=k/\¬E k):=by
        obtain⟨B,H,rB,rC,K,L,N,D,Q,X⟩:=HWX.out
        have e:wcW W i=qkv W i:=by
         unfold wcW;rw[<-HM.out,if_neg hsq]
        rw[e];exact⟨B,rB,PW.lt ⟨M,I,x.out.1,x.out.2.1⟩,Q,x.out.1.told (W1:=qkv W i) x.out.2.1 x.out.2.2.1 x.out.2.2.2.1 rfl rfl (by omega) rC L N (λm k O C=>⟨(D m k O C).1,by have:=(D m k O C).2.1;omega,(D m k O C).2.2⟩) (qh2.none K (Below.refl _ _) _)⟩
   obtain⟨r0,K,L,N,D,Q,X,r7,r8⟩:=J.c9;obtain⟨p0,p1,p2,p3,p4,p5,p6,p7,p8⟩:=J.f9;have RZ:=qb3 J rfl l j o p q r s u (.slice d a.length g);obtain⟨B,hB,hGl,hF⟩:=R.out;have END:=q1t (m:=(⟨⟨l,j,o,p,q,r,s,u,a⟩,d,g⟩:TxM)) hF hGl hB l j o p q r s u (.slice d a.length g);clear R HWX V J hF hGl
   go_wp2_with (rw[hWC])
   exact bodyPost_ret (qe5 RZ rfl rfl) rfl ⟨(⟨⟨l,j,o,p,q,r,s,u,a⟩,d,g⟩:TxM),by rw[hce];rfl,HM.out,END⟩
 ·have R:Hid (∃B,w.heap.size<B/\(∀k,G k->k<w.heap.size)/\wcT W i=tx0.t/\qaz y tx0.wa tx0.wc tx0.t.ws/\∃E,PW y b E (wcW W i)/\(∀k,E k->G k\/B<=k)/\qae G w y/\∀k,tx0.blk k->B<=k/\¬E k):=by
   obtain⟨B,H,rB,rC,K,L,N,D,Q,X⟩:=HWX.out;have e0:wcT W i=tx0.t:=(qyj (by have:=hce;unfold wcE at this;rw[this];exact hE)).1
   have e:wcW W i=qkv W i:=by
        unfold wcW;rw[e0,if_neg (by decide)]
   rw[e];exact⟨B,rB,PW.lt ⟨M,I,x.out.1,x.out.2.1⟩,e0,qo7 _,x.out.1.told (W1:=qkv W i) (Y:=tx0.blk) x.out.2.1 x.out.2.2.1 x.out.2.2.2.1 rfl rfl (by omega) rC L N (λm k O C=>absurd C (qhi k)) (qh2.none K (Below.refl _ _) _)⟩
  rw[show qbq ce=.iface 26 (int i64 ce) by unfold qbq;rw[if_neg hE]];obtain⟨r0,K,L,N,D,Q,X,r7,r8⟩:=J.c9;obtain⟨p0,p1,p2,p3,p4,p5,p6,p7,p8⟩:=J.f9;have RZ:=qb3 J rfl 0 0 0 0 0 0 0 0 (.slice none 0 0);obtain⟨B,hB,hGl,e0,hF⟩:=R.out;have END:=q1t (m:=tx0) hF hGl hB 0 0 0 0 0 0 0 0 (.slice none 0 0);clear R HWX V J hF hGl
  go_wp2_with (rw[hWC])
  exact bodyPost_ret (qe5 RZ rfl rfl) rfl ⟨tx0,by rw[hce];unfold qbq;rw[if_neg hE];rfl,e0.symm,END⟩
end
section
open Tryz Go.Value Go.IntKind Go.RowKit
variable {i:Nat}
section
variable {w:World} {b:Nat} {G:Nat->Prop} {W:WoS}
theorem PW.lens (h:PW w b G W):∃a0 a a1 d a2 e,w.cell? ⟨b,0,none⟩=some (.slice a0 W.n a)/\w.cell? ⟨b,1,none⟩=some (.slice a1 W.c d)/\w.cell? ⟨b,2,none⟩=some (.slice a2 W.net.length e)/\w.cell? ⟨b,3,none⟩=some (int i64 W.lost)/\b<w.heap.size:=by
 obtain⟨M,m,h,_⟩:=h;obtain⟨a0,a,f,_⟩:=qai h.pr;obtain⟨a1,d,g,_⟩:=qai h.cr;obtain⟨a2,e,j,_⟩:=qai h.nr
 have k:M.l.length=W.net.length:=by rw[<-h.nl];simp
 have c0:=h.box.cell 0 _ rfl;have c1:=h.box.cell 1 _ rfl;have c2:=h.box.cell 2 _ rfl;rw[f]at c0;rw[g]at c1;rw[j,k]at c2;exact⟨a0,a,a1,d,a2,e,c0,c1,c2,h.box.cell 3 _ rfl,h.box.lt⟩
theorem qw3 (k:Int) (w:World) (h:PW w b G W) (j:¬(0<=k/\k<(W.c:Int))):
 Calls prog 98 #[.pointer (some ⟨b,0,none⟩),int i64 k] w λe w'=>e=.returned (qbq 2)/\Below w.heap.size w w':=by
 obtain⟨a0,l,a1,m,a2,n,c0,c1,c2,c3,o⟩:=h.lens
 have a:=qbd (k:=k) (v:=false) w c1 (by
  have q:¬(0<=k)\/¬(k<(W.c:Int)):=by omega
  rcases q with q|q<;>simp[q])
 clear h c0 c1 c2 c3;go_enter func98,ntmps98
 go_wp2_with fail
 refine a.mono ?_;rintro e w2 ⟨rfl,d⟩;have g:=d.symm;clear d a;subst g
 go_wp2_with fail
 go_ret;exact⟨rfl,Below.refl _ _⟩
theorem qz8 (k:Int) (key:Int) (w:World) (h:PW w b G W) (j:¬(0<=k/\k<(W.c:Int))):
 Calls prog 113 #[.pointer (some ⟨b,0,none⟩),int i64 k,int i64 key] w λe w'=>e=.returned (.tuple #[.string ⟨#[]⟩,qbq 2])/\Below w.heap.size w w':=by
 obtain⟨a0,l,a1,m,a2,n,c0,c1,c2,c3,o⟩:=h.lens
 have a:=qbd (k:=k) (v:=false) w c1 (by
  have q:¬(0<=k)\/¬(k<(W.c:Int)):=by omega
  rcases q with q|q<;>simp[q])
 clear h c0 c1 c2 c3;go_enter func113,ntmps113
 go_wp2_with fail
 refine a.mono ?_;rintro e w2 ⟨rfl,d⟩;have g:=d.symm;clear d a;subst g
 go_wp2_with fail
 go_ret2;exact⟨rfl,Below.refl _ _⟩
theorem qpe (k:Int) (a:Int) (d:ByteArray) (g:Bool) (w:World) (h:PW w b G W) (o:¬(0<=k/\k<(W.c:Int))):
 Calls prog 105 #[.pointer (some ⟨b,0,none⟩),int i64 k,.agg #[int i64 a,.string d,.bool g]] w λe w'=>e=.returned (qbq 2)/\Below w.heap.size w w':=by
 obtain⟨a0,p,a1,r,a2,s,c0,c1,c2,c3,u⟩:=h.lens;have m:=boxed (Below.refl _ w) (.cells #[int i64 a,.string d,.bool g] 100)
 have j:=qbd (k:=k) (v:=false) (w.alloc (.cells #[int i64 a,.string d,.bool g] 100)) (cell_later m c1) (by
  have q:¬(0<=k)\/¬(k<(W.c:Int)):=by omega
  rcases q with q|q<;>simp[q])
 clear h c0 c1 c2 c3;go_enter func105,ntmps105
 go_wp2_with fail
 refine j.mono ?_;rintro e w2 ⟨rfl,l⟩;have n:=l.symm;clear l j;subst n
 go_wp2_with fail
 go_ret;exact⟨rfl,boxed (Below.refl _ w) _⟩
theorem quq (k:Int) (w:World) (h:PW w b G W) (o:¬(0<=k/\k<(W.c:Int))):
 Calls prog 103 #[.pointer (some ⟨b,0,none⟩),int i64 k] w λe w'=>e=.returned (.tuple #[.agg #[int i64 0,int i64 0,int i64 0,int i64 0,int i64 0,int i64 0,int i64 0,int i64 0,.slice none 0 0],qbq 2])/\Below w.heap.size w w':=by
 obtain⟨a0,p,a1,r,a2,s,c0,c1,c2,c3,u⟩:=h.lens;have d:=boxed (Below.refl _ w) (.cells #[int i64 0,int i64 0,int i64 0,int i64 0,int i64 0,int i64 0,int i64 0,int i64 0,.slice none 0 0] 102);have a:=qag.new (w:=w) (T:=102) (n:=w.heap.size) [int i64 0,int i64 0,int i64 0,int i64 0,int i64 0,int i64 0,int i64 0,int i64 0,.slice none 0 0] rfl;have z0:=a.cell 0 _ rfl;have f0:=a.free 0 (by simp);have x:=a.cell 1 _ rfl;have f1:=a.free 1 (by simp);have z2:=a.cell 2 _ rfl;have f2:=a.free 2 (by simp);have z3:=a.cell 3 _ rfl;have f3:=a.free 3 (by simp);have z4:=a.cell 4 _ rfl;have y:=a.free 4 (by simp);have z5:=a.cell 5 _ rfl;have z:=a.free 5 (by simp);have B:=a.cell 6 _ rfl;have f6:=a.free 6 (by simp);have C:=a.cell 7 _ rfl;have f7:=a.free 7 (by simp);have D:=a.cell 8 _ rfl;have f8:=a.free 8 (by simp);have RS:=qb3 a rfl 0 0 0 0 0 0 0 0 (.slice none 0 0);simp only[qbu]at RS;have l:Hid _:=a;clear a RS
 have g:=qbd (k:=k) (v:=false) (w.alloc (.cells #[int i64 0,int i64 0,int i64 0,int i64 0,int i64 0,int i64 0,int i64 0,int i64 0,.slice none 0 0] 102)) (cell_later d c1) (by
  have q:¬(0<=k)\/¬(k<(W.c:Int)):=by omega
  rcases q with q|q<;>simp[q])
 clear h c0 c1 c2 c3;go_enter func103,ntmps103
 go_wp2_with fail
 refine g.mono ?_;rintro e w2 ⟨rfl,j⟩;have m:=j.symm;clear j g;subst m
 go_wp2_with fail
 (try simp only[Exit.inBlock,Exit.then])
 exact bodyPost_ret (qe5 l.out rfl rfl) rfl ⟨rfl,d⟩
theorem qxe (k:Int) (w:World) (h:PW w b G W) (j:¬(0<=k/\k<(W.c:Int))):
 Calls prog 94 #[.pointer (some ⟨b,0,none⟩),int i64 k] w λe w'=>e=.returned (qbq 2)/\Below w.heap.size w w':=by
 obtain⟨a0,l,a1,m,a2,n,c0,c1,c2,c3,o⟩:=h.lens
 have a:=qbd (k:=k) (v:=false) w c1 (by
  have q:¬(0<=k)\/¬(k<(W.c:Int)):=by omega
  rcases q with q|q<;>simp[q])
 clear h c0 c1 c2 c3;go_enter func94,ntmps94
 go_wp2_with fail
 refine a.mono ?_;rintro e w2 ⟨rfl,d⟩;have g:=d.symm;clear d a;subst g
 go_wp2_with fail
 go_ret;exact⟨rfl,Below.refl _ _⟩
theorem qp1 (k:Int) (w:World) (h:PW w b G W) (g:¬(0<=k/\k<(W.net.length:Int))):
 Calls prog 104 #[.pointer (some ⟨b,0,none⟩),int i64 k] w λe w'=>e=.returned (qbq 2)/\Below w.heap.size w w':=by
 obtain⟨a0,j,a1,l,a2,m,c0,c1,c2,c3,n⟩:=h.lens
 have a:=qgc (k:=k) (v:=false) w c2 (by
  have q:¬(0<=k)\/¬(k<(W.net.length:Int)):=by omega
  rcases q with q|q<;>simp[q])
 clear h c0 c1 c2 c3;go_enter func104,ntmps104
 go_wp2_with fail
 refine a.mono ?_;rintro e w2 ⟨rfl,c⟩;have d:=c.symm;clear c a;subst d
 go_wp2_with fail
 go_ret;exact⟨rfl,Below.refl _ _⟩
theorem qxg (k:Int) (w:World) (h:PW w b G W) (g:¬(0<=k/\k<(W.net.length:Int))):
 Calls prog 109 #[.pointer (some ⟨b,0,none⟩),int i64 k] w λe w'=>e=.returned (qbq 2)/\Below w.heap.size w w':=by
 obtain⟨a0,j,a1,l,a2,m,c0,c1,c2,c3,n⟩:=h.lens
 have a:=qgc (k:=k) (v:=false) w c2 (by
  have q:¬(0<=k)\/¬(k<(W.net.length:Int)):=by omega
  rcases q with q|q<;>simp[q])
 clear h c0 c1 c2 c3;go_enter func109,ntmps109
 go_wp2_with fail
 refine a.mono ?_;rintro e w2 ⟨rfl,c⟩;have d:=c.symm;clear c a;subst d
 go_wp2_with fail
 go_ret;exact⟨rfl,Below.refl _ _⟩
theorem quv (k:Int) (w:World) (h:PW w b G W) (g:¬(0<=k/\k<(W.net.length:Int))):
 Calls prog 116 #[.pointer (some ⟨b,0,none⟩),int i64 k] w λe w'=>e=.returned (qbq 2)/\Below w.heap.size w w':=by
 obtain⟨a0,j,a1,l,a2,m,c0,c1,c2,c3,n⟩:=h.lens
 have a:=qgc (k:=k) (v:=false) w c2 (by
  have q:¬(0<=k)\/¬(k<(W.net.length:Int)):=by omega
  rcases q with q|q<;>simp[q])
 clear h c0 c1 c2 c3;go_enter func116,ntmps116
 go_wp2_with fail
 refine a.mono ?_;rintro e w2 ⟨rfl,c⟩;have d:=c.symm;clear c a;subst d
 go_wp2_with fail
 go_ret;exact⟨rfl,Below.refl _ _⟩
theorem qxd (k:Int) (w:World) (h:PW w b G W) (g:¬(0<=k/\k<(W.n:Int))):
 Calls prog 115 #[.pointer (some ⟨b,0,none⟩),int i64 k] w λe w'=>e=.returned (qbq 2)/\Below w.heap.size w w':=by
 obtain⟨a0,j,a1,l,a2,m,c0,c1,c2,c3,o⟩:=h.lens
 have a:=qbh (k:=k) (v:=false) w c0 (by
  have q:¬(0<=k)\/¬(k<(W.n:Int)):=by omega
  rcases q with q|q<;>simp[q])
 clear h c0 c1 c2 c3;go_enter func115,ntmps115
 go_wp2_with fail
 refine a.mono ?_;rintro e w2 ⟨rfl,c⟩;have d:=c.symm;clear c a;subst d
 go_wp2_with fail
 go_ret;exact⟨rfl,Below.refl _ _⟩
theorem q0d (k:Int) (y:Int) (w:World) (h:PW w b G W) (g:¬(0<=k/\k<(W.n:Int))):
 Calls prog 106 #[.pointer (some ⟨b,0,none⟩),int i64 k,int i64 y] w λe w'=>e=.returned (qbq 2)/\Below w.heap.size w w':=by
 obtain⟨a0,j,a1,l,a2,m,c0,c1,c2,c3,o⟩:=h.lens
 have a:=qbh (k:=k) (v:=false) w c0 (by
  have q:¬(0<=k)\/¬(k<(W.n:Int)):=by omega
  rcases q with q|q<;>simp[q])
 clear h c0 c1 c2 c3;go_enter func106,ntmps106
 go_wp2_with fail
 refine a.mono ?_;rintro e w2 ⟨rfl,c⟩;have d:=c.symm;clear c a;subst d
 go_wp2_with fail
 go_ret;exact⟨rfl,Below.refl _ _⟩
theorem qz4 (k:Int) (y:Int) (w:World) (h:PW w b G W) (j:¬(0<=k/\k<(W.c:Int))):
 Calls prog 112 #[.pointer (some ⟨b,0,none⟩),int i64 k,int i64 y] w λe w'=>e=.returned (qbq 2)/\Below w.heap.size w w':=by
 obtain⟨a0,l,a1,m,a2,n,c0,c1,c2,c3,o⟩:=h.lens
 have a:=qbd (k:=k) (v:=false) w c1 (by
  have q:¬(0<=k)\/¬(k<(W.c:Int)):=by omega
  rcases q with q|q<;>simp[q])
 clear h c0 c1 c2 c3;go_enter func112,ntmps112
 go_wp2_with fail
 refine a.mono ?_;rintro e w2 ⟨rfl,d⟩;have g:=d.symm;clear d a;subst g
 go_wp2_with fail
 go_ret;exact⟨rfl,Below.refl _ _⟩
theorem qvy (y:Int) (w:World) (h:PW w b G W) (hi:i<W.c) (o:¬(0<=y/\y<(W.n:Int))):
 Calls prog 112 #[.pointer (some ⟨b,0,none⟩),int i64 i,int i64 y] w λe w'=>e=.returned (qbq 2)/\Below w.heap.size w w':=by
 obtain⟨a0,p,a1,r,a2,s,c0,c1,c2,c3,t⟩:=h.lens;have a:=qbd (k:=i) (v:=true) w c1 (by simp;omega)
 have d:=qbh (k:=y) (v:=false) w c0 (by
  have q:¬(0<=y)\/¬(y<(W.n:Int)):=by omega
  rcases q with q|q<;>simp[q])
 clear h c0 c1 c2 c3;go_enter func112,ntmps112
 go_wp2_with fail
 refine a.mono ?_;rintro e w2 ⟨rfl,g⟩;have l:=g.symm;clear g a;subst l
 go_wp2_with fail
 refine d.mono ?_;rintro e u ⟨rfl,j⟩;have m:=j.symm;clear j d;subst m
 go_wp2_with fail
 go_ret;exact⟨rfl,Below.refl _ _⟩
theorem qxa (y:Int) (w:World) (h:PW w b G W) (hi:i<W.n) (g:¬(0<=y/\y<=1099511627776)):
 Calls prog 106 #[.pointer (some ⟨b,0,none⟩),int i64 i,int i64 y] w λe w'=>e=.returned (qbq 2)/\Below w.heap.size w w':=by
 obtain⟨a0,j,a1,l,a2,m,c0,c1,c2,c3,o⟩:=h.lens;have c:=qbh (k:=i) (v:=true) w c0 (by simp;omega);clear h c0 c1 c2 c3;by_cases p:y<0
 ·skip;go_enter func106,ntmps106
  go_wp2_with fail
  refine c.mono ?_;rintro e w2 ⟨rfl,a⟩;have d:=a.symm;clear a c;subst d
  go_wp2_with fail
  go_ret;exact⟨rfl,Below.refl _ _⟩
 ·have q:1099511627776<y:=by omega
  go_enter func106,ntmps106
  go_wp2_with fail
  refine c.mono ?_;rintro e w2 ⟨rfl,a⟩;have d:=a.symm;clear a c;subst d
  go_wp2_with fail
  go_ret;exact⟨rfl,Below.refl _ _⟩
theorem q28 (k:Int) (y:Int) (w:World) (h:PW w b G W) (g:¬(0<=k/\k<(W.n:Int))):
 Calls prog 96 #[.pointer (some ⟨b,0,none⟩),int i64 k,int i64 y] w λe w'=>e=.returned (qbq 2)/\Below w.heap.size w w':=by
 obtain⟨a0,j,a1,l,a2,m,c0,c1,c2,c3,o⟩:=h.lens
 have a:=qbh (k:=k) (v:=false) w c0 (by
  have q:¬(0<=k)\/¬(k<(W.n:Int)):=by omega
  rcases q with q|q<;>simp[q])
 clear h c0 c1 c2 c3;go_enter func96,ntmps96
 go_wp2_with fail
 refine a.mono ?_;rintro e w2 ⟨rfl,c⟩;have d:=c.symm;clear c a;subst d
 go_wp2_with fail
 go_ret;exact⟨rfl,Below.refl _ _⟩
theorem qy6 (y:Int) (w:World) (h:PW w b G W) (hi:i<W.n) (m:¬(0<=y/\y<(W.n:Int))):
 Calls prog 96 #[.pointer (some ⟨b,0,none⟩),int i64 i,int i64 y] w λe w'=>e=.returned (qbq 2)/\Below w.heap.size w w':=by
 obtain⟨a0,o,a1,p,a2,r,c0,c1,c2,c3,s⟩:=h.lens;have a:=qbh (k:=i) (v:=true) w c0 (by simp;omega)
 have c:=qbh (k:=y) (v:=false) w c0 (by
  have q:¬(0<=y)\/¬(y<(W.n:Int)):=by omega
  rcases q with q|q<;>simp[q])
 clear h c0 c1 c2 c3;go_enter func96,ntmps96
 go_wp2_with fail
 refine a.mono ?_;rintro e w2 ⟨rfl,d⟩;have j:=d.symm;clear d a;subst j
 go_wp2_with fail
 refine c.mono ?_;rintro e t ⟨rfl,g⟩;have l:=g.symm;clear g c;subst l
 go_wp2_with fail
 go_ret;exact⟨rfl,Below.refl _ _⟩
theorem jcf (w:World) (h:PW w b G W):Calls prog 111 #[.pointer (some ⟨b,0,none⟩)] w λe w'=>e=.returned (int i64 W.lost)/\w'=w:=by
 obtain⟨a0,a,a1,c,a2,d,c0,c1,c2,c3,g⟩:=h.lens;clear h c0 c1 c2;go_enter func111,ntmps111
 go_wp2_with fail
 go_ret;exact⟨rfl,rfl⟩
theorem qy3 (k:Int) (w:World) (h:PW w b G W) (m:¬(0<=k/\k<(W.n:Int))):
 Calls prog 114 #[.pointer (some ⟨b,0,none⟩),int i64 k] w λe w'=>e=.returned (.tuple #[.agg #[int i64 0,int i64 0,int i64 0,int i64 0],int i64 0,.slice none 0 0,int i64 0,qbq 2])/\Below w.heap.size w w':=by
 obtain⟨a0,o,a1,p,a2,r,c0,c1,c2,c3,s⟩:=h.lens;have c:=boxed (Below.refl _ w) (.cells #[int i64 0,int i64 0,int i64 0,int i64 0] 77);have a:=qag.new (w:=w) (T:=77) (n:=w.heap.size) [int i64 0,int i64 0,int i64 0,int i64 0] rfl;have z0:=a.cell 0 _ rfl;have f0:=a.free 0 (by simp);have u:=a.cell 1 _ rfl;have f1:=a.free 1 (by simp);have z2:=a.cell 2 _ rfl;have f2:=a.free 2 (by simp);have z3:=a.cell 3 _ rfl;have f3:=a.free 3 (by simp);have j:Hid _:=a;clear a
 have d:=qbh (k:=k) (v:=false) (w.alloc (.cells #[int i64 0,int i64 0,int i64 0,int i64 0] 77)) (cell_later c c0) (by
  have q:¬(0<=k)\/¬(k<(W.n:Int)):=by omega
  rcases q with q|q<;>simp[q])
 clear h c0 c1 c2 c3;go_enter func114,ntmps114
 go_wp2_with fail
 refine d.mono ?_;rintro e w2 ⟨rfl,g⟩;have l:=g.symm;clear g d;subst l
 go_wp2_with fail
 (try simp only[Exit.inBlock,Exit.then])
 exact bodyPost_ret (qnf j.out rfl rfl rfl rfl rfl) rfl ⟨rfl,c⟩
theorem qtj (k:Int) (w:World) (h:PW w b G W) (p:¬(0<=k/\k<(W.c:Int))):
 Calls prog 101 #[.pointer (some ⟨b,0,none⟩),int i64 k] w λe w'=>e=.returned (.tuple #[int i64 0,.agg #[int i64 0,int i64 0,int i64 0,int i64 0],.agg #[int i64 0,int i64 0,int i64 0,int i64 0],.bool false,qbq 2])/\Below w.heap.size w w':=by
 obtain⟨a0,r,a1,s,a2,u,c0,c1,c2,c3,x⟩:=h.lens;have g:=boxed (boxed (Below.refl _ w) (.cells #[int i64 0,int i64 0,int i64 0,int i64 0] 77)) (.cells #[int i64 0,int i64 0,int i64 0,int i64 0] 77);have a:=(qag.new (w:=w) (T:=77) (n:=w.heap.size) [int i64 0,int i64 0,int i64 0,int i64 0] rfl).later (boxed (Below.refl _ _) (.cells #[int i64 0,int i64 0,int i64 0,int i64 0] 77));have d:=qag.new (w:=w.alloc (.cells #[int i64 0,int i64 0,int i64 0,int i64 0] 77)) (T:=77) (n:=w.heap.size+1) [int i64 0,int i64 0,int i64 0,int i64 0] (by simp);have z0:=a.cell 0 _ rfl;have f0:=a.free 0 (by simp);have y:=d.cell 0 _ rfl;have z:=d.free 0 (by simp);have B:=a.cell 1 _ rfl;have f1:=a.free 1 (by simp);have C:=d.cell 1 _ rfl;have g1:=d.free 1 (by simp);have z2:=a.cell 2 _ rfl;have f2:=a.free 2 (by simp);have D:=d.cell 2 _ rfl;have E:=d.free 2 (by simp);have z3:=a.cell 3 _ rfl;have f3:=a.free 3 (by simp);have F:=d.cell 3 _ rfl;have g3:=d.free 3 (by simp);have j:Hid _:=And.intro a d;clear a d
 have l:=qbd (k:=k) (v:=false) ((w.alloc (.cells #[int i64 0,int i64 0,int i64 0,int i64 0] 77)).alloc (.cells #[int i64 0,int i64 0,int i64 0,int i64 0] 77)) (cell_later g c1) (by
  have q:¬(0<=k)\/¬(k<(W.c:Int)):=by omega
  rcases q with q|q<;>simp[q])
 clear h c0 c1 c2 c3;go_enter func101,ntmps101
 go_wp2_with fail
 refine l.mono ?_;rintro e w2 ⟨rfl,m⟩;have o:=m.symm;clear m l;subst o
 go_wp2_with fail
 (try simp only[Exit.inBlock,Exit.then])
 exact bodyPost_ret (qko j.out.1 j.out.2 rfl rfl rfl rfl rfl) rfl ⟨rfl,g⟩
theorem q1z {n c:Int} (a:¬((1<=n/\n<=4)/\(0<=c/\c<=6))) (w:World):
 Calls prog 65 #[int i64 n,int i64 c] w λe w'=>e=.returned (.tuple #[.pointer none,qbq 2])/\Below w.heap.size w w':=by
 by_cases d:n<1
 ·skip;go_enter func65,ntmps65
  go_wp2_with fail
  go_ret2;exact⟨rfl,Below.refl _ _⟩
 by_cases g:4<n
 ·skip;go_enter func65,ntmps65
  go_wp2_with fail
  go_ret2;exact⟨rfl,Below.refl _ _⟩
 by_cases h:c<0
 ·skip;go_enter func65,ntmps65
  go_wp2_with fail
  go_ret2;exact⟨rfl,Below.refl _ _⟩
 ·have j:6<c:=by omega
  go_enter func65,ntmps65
  go_wp2_with fail
  go_ret2;exact⟨rfl,Below.refl _ _⟩
end
end
section
open Go.RowKit
variable {k m i:Nat} {g:GrS} {W:WoS}
section
variable {W W':WoS} {j:Nat}
theorem PlI.bring (hb:qcy W W'):PlI j W->PlI j W':=by
 induction hb with
 |none _=>exact id
 |step _ hd _ ih=>exact λh=>ih (h.deliver hd)
theorem PlI.asks (b:qgj k m W W'):PlI j W->k<W.n->m<=W.n->PlI j W':=by
 induction b with
 |zero=>exact λh _ _=>h
 |self _ _ ih=>exact λh a c=>ih h a (by omega)
 |@ask W W1 W' m h1 hne hb ih=>
  intro h a c;have d:=ih h a (by omega);have e:W1.n=W.n:=h1.keep.n;exact PlI.bring hb (d.send (g:=⟨m,.ask k (W1.S k).a0 (W1.S k).a1 (W1.S k).a2 (W1.S k).a3⟩) (by show m<W1.n;omega) (by show 0<=(k:Int)/\(k:Int)<(W1.n:Int);omega))
theorem PlI.round (a:qfg m W W'):PlI j W->m<=W.n->PlI j W':=by
 induction a with
 |zero=>exact λh _=>h
 |@next W W1 W' m h1 h2 ih=>
  intro h b;have c:W1.n=W.n:=h1.keep.n;exact PlI.asks h2 (ih h (by omega)) (by omega) (Nat.le_refl _)
theorem PlI.calm (h:PlI j W) (a:qkx W W'):PlI j W':=by
 obtain⟨W1,b,c⟩:=a;exact PlI.round c (PlI.bring b h) (Nat.le_refl _)
theorem jah (x:Int):wfI (wrap64 x):=by
 unfold wfI wrap64;omega
theorem qja (h:wfI W.lost):wfI (qdd W g).lost:=by
 unfold qdd;split
 ·exact jah _
 ·exact h
theorem qo5 {t:TxP}:∀(k:Nat),wfI W.lost->wfI (qec t k W).lost
 |0,_,h=>h
 |k+1,_,h=>by
  unfold qec;split
  ·exact qo5 k h
  ·exact qja (qo5 k h)
theorem qqe {o:Nat}:∀(l:List TxP),wfI W.lost->wfI (qch o l W).lost
 |[],_,h=>h
 |t::l,_,h=>by
  unfold qch;refine qqe l ?_;split
  ·exact h
  ·exact qja h
theorem q3o (a:qhb W g W') (h:wfI W.lost):wfI W'.lost:=by
 unfold qhb at a;split at a
 ·obtain⟨S',_,rfl⟩:=a;exact h
 ·split at a
  ·rw[a];exact qqe _ h
  ·rw[a];exact h
theorem qnj (a:qcj W i W') (h:wfI W.lost):wfI W'.lost:=by
 obtain⟨g,_,b⟩:=a;exact q3o b h
theorem qqx (hb:qcy W W'):wfI W.lost->wfI W'.lost:=by
 induction hb with
 |none _=>exact id
 |step _ hd _ ih=>exact λh=>ih (qnj hd h)
theorem q48 (a:qgj k m W W'):wfI W.lost->wfI W'.lost:=by
 induction a with
 |zero=>exact id
 |self _ _ ih=>exact ih
 |ask _ _ hb ih=>exact λh=>qqx hb (qja (ih h))
theorem qzw (a:qfg m W W'):wfI W.lost->wfI W'.lost:=by
 induction a with
 |zero=>exact id
 |next _ h2 ih=>exact λh=>q48 h2 (ih h)
theorem q47 (a:qkx W W') (h:wfI W.lost):wfI W'.lost:=by
 obtain⟨W1,b,c⟩:=a;exact qzw c (qqx b h)
end
structure qm8 (s:qbn):Prop where
 p0:qd5 s.p0
 p1:qd5 s.p1
 p2:qd5 s.p2
 p3:qd5 s.p3
 s0:qd5 s.s0
 s1:qd5 s.s1
 s2:qd5 s.s2
 s3:qd5 s.s3
 ws:∀x∈s.ws,x.data.size<=12
theorem qfn {a b:Int} (h:qd5 a) (k:qd5 b):qd5 (qb9 a b):=by unfold qb9;split<;>assumption
theorem qgz:qd5 0:=⟨by decide,by decide⟩
theorem qm8.new:qm8 qia:=⟨qgz,qgz,qgz,qgz,qgz,qgz,qgz,qgz,λ_ h=>(by cases h)⟩
variable {S:qaf} {s:qbn}
theorem qm8.begin (h:qm8 s) (a:qcx S):qm8 (qpb S s):=by
 unfold qpb;split
 ·exact⟨h.p0,h.p1,h.p2,h.p3,a.a0,a.a1,a.a2,a.a3,λ_ h=>(by cases h)⟩
 ·exact h
theorem qm8.write (h:qm8 s) (x:Wr):qm8 (qlk s x):=by
 unfold qlk;split
 ·rename_i q;refine⟨h.p0,h.p1,h.p2,h.p3,h.s0,h.s1,h.s2,h.s3,λy a=>?_⟩;rcases List.mem_append.1 a with r|r
  ·exact h.ws y r
  ·rw[List.mem_singleton.1 r];unfold qf4 at q
   repeat' split at q
   all_goals first|omega|(exfalso;revert q;decide)
 ·exact h
theorem qm8.end_ (h:qm8 s):qm8 (qhe s):=⟨qfn h.p0 h.s0,qfn h.p1 h.s1,qfn h.p2 h.s2,qfn h.p3 h.s3,qgz,qgz,qgz,qgz,λ_ h=>(by cases h)⟩
theorem qm8.abort (h:qm8 s):qm8 (qpr s):=by
 unfold qpr;split
 ·exact h
 ·exact h.end_
theorem qm8.atLeast (h:qm8 s) {site seq:Int} (a:qd5 seq):qm8 (atLeast site seq s):=by
 refine⟨?_,?_,?_,?_,h.s0,h.s1,h.s2,h.s3,h.ws⟩
 ·show qd5 (if site=0 then qb9 s.p0 seq else s.p0);split;exact qfn h.p0 a;exact h.p0
 ·show qd5 (if site=1 then qb9 s.p1 seq else s.p1);split;exact qfn h.p1 a;exact h.p1
 ·show qd5 (if site=2 then qb9 s.p2 seq else s.p2);split;exact qfn h.p2 a;exact h.p2
 ·show qd5 (if site=3 then qb9 s.p3 seq else s.p3);split;exact qfn h.p3 a;exact h.p3
theorem qm8.commit {now:Int} (h:qm8 s) (a:qd5 (qe7 S s now).seq):qm8 (qbe S s now):=by
 unfold qbe;split
 ·exact h
 ·split
  ·exact h.end_
  ·exact h.end_.atLeast a
structure DkI (W:WoS):Prop where
 pl:∃j,PlI j W
 ses:∀k,k<W.c->qm8 (W.ses k)
 lost:wfI W.lost
variable {er:Int} {t:List UInt8}
section
variable {W W':WoS} {k:Nat}
theorem DkI.new {n c:Nat} (a:1<=n) (b:n<=4) (d:c<=6):DkI (qhk n c):=⟨⟨0,PlI.new a b d⟩,λ_ _=>qm8.new,(by show wfI 0;exact⟨by decide,by decide⟩)⟩
theorem DkI.set {a:qbn} (h:DkI W) (b:∃j,PlI j (qb1 W k a)) (hs:qm8 a):DkI (qb1 W k a):=⟨b,λi hi=>by
 show qm8 (qcg W.ses k a i);by_cases q:i=k
 ·rw[q,qam];exact hs
 ·rw[qby _ _ q];exact h.ses i hi,h.lost⟩
theorem q3f (h:DkI W) (b:k<W.c):qd5 (wcT W k).seq:=by
 by_cases q:0<(wcT W k).seq
 ·obtain⟨j,a⟩:=h.pl;have:=(a.told b q).1;simp only[okT,qdf,Bool.and_eq_true,qa5]at this;exact⟨by omega,by omega⟩
 ·unfold wcT qe7 at q ⊢;split at q
  ·rename_i e;rw[if_pos e];exact qgz
  ·rename_i e;rw[if_neg e];unfold qo6 at q ⊢;split at q
   ·rename_i f;rw[if_pos f]
    exfalso
    apply q
    obtain⟨j,a⟩:=h.pl;have d:=a.wf.inv _ (a.wf.at_ k b);have:=qjy (ws:=qb6 (W.ses k).ws) d f;simp only[okT,qdf,Bool.and_eq_true,qa5]at this;have:=this.1.1.1.1.2.1;omega
   ·rename_i f;rw[if_neg f];exact qgz
theorem DkI.cmd {l:List Int} {d:ByteArray} (h:DkI W) (a:qd3 i W l d W' er t):DkI W':=by
 obtain⟨j,b⟩:=h.pl;unfold qd3 at a;split at a
 case h_1 k=>
  obtain⟨_,a⟩:=a;split at a
  ·rename_i q
   have f:k.toNat<W.c:=by have:=q.1;have:=q.2;omega
   rw[a.1];exact h.set ⟨_,b.abort f⟩ (h.ses _ f).abort
  ·rw[a.1];exact h
 case h_2 k o=>
  obtain⟨_,a⟩:=a;split at a
  ·rename_i q;rw[a.1];exact⟨⟨j,b.send (g:=⟨o.toNat,.ask k.toNat (W.S k.toNat).a0 (W.S k.toNat).a1 (W.S k.toNat).a2 (W.S k.toNat).a3⟩) (by show o.toNat<W.n;have:=q.2.1.1;have:=q.2.1.2;omega) (by show 0<=(k.toNat:Int)/\(k.toNat:Int)<(W.n:Int);have:=q.1.1;have:=q.1.2;omega)⟩,by rw[show (qvm W k.toNat o.toNat).c=W.c from(qbk _ _).c,show (qvm W k.toNat o.toNat).ses=W.ses from(qbk _ _).ses];exact h.ses,qja h.lost⟩
  ·rw[a.1];exact h
 case h_3 k=>
  obtain⟨_,a⟩:=a;split at a
  ·rename_i q
   have f:k.toNat<W.c:=by have:=q.1;have:=q.2;omega
   rw[a.1];exact h.set ⟨_,b.begin f⟩ ((h.ses _ f).begin (b.wf.inv _ (b.wf.at_ _ f)))
  ·rw[a.1];exact h
 case h_4=>exact⟨⟨j,b.calm a.2.1⟩,by rw[a.2.1.keep.c,a.2.1.keep.ses];exact h.ses,q47 a.2.1 h.lost⟩
 case h_5=>rw[a.1];exact h
 case h_6 k=>
  split at a
  ·rename_i q
   have f:k.toNat<W.c:=by have:=q.1;have:=q.2;omega
   rw[a.2.1]
   have p:∀i,i<W.c->qm8 ((qkv W k.toNat).ses i):=λi hi=>by
        show qm8 (qcg W.ses k.toNat _ i);by_cases e:i=k.toNat
        ·rw[e,qam];exact(h.ses _ f).commit (q3f h f)
        ·rw[qby _ _ e];exact h.ses i hi
   refine⟨⟨j,b.commit f⟩,?_,?_⟩
   ·unfold wcW;split
    ·rw[(qce _ _ _).c,(qce _ _ _).ses];exact p
    ·exact p
   ·unfold wcW;split
    ·exact qo5 _ h.lost
    ·exact h.lost
  ·rw[a.2.1];exact h
 case h_7 k=>
  obtain⟨_,a⟩:=a;split at a
  ·exact⟨⟨j,b.deliver a.1⟩,by rw[a.1.keep.c,a.1.keep.ses];exact h.ses,qnj a.1 h.lost⟩
  ·rw[a.1];exact h
 case h_8 k key=>
  obtain⟨_,a⟩:=a;split at a
  ·rename_i q
   have f:k.toNat<W.c:=by have:=q.1;have:=q.2;omega
   rw[a.1];exact h.set ⟨_,b.write f _⟩ ((h.ses _ f).write _)
  ·rw[a.1];exact h
 case h_9 k y=>
  obtain⟨_,a⟩:=a;split at a
  ·rename_i q;rw[a.1];exact⟨⟨j,b.goes q.2.1 (by have:=q.1.1;have:=q.1.2;omega)⟩,h.ses,h.lost⟩
  ·rw[a.1];exact h
 case h_10=>rw[a.2.1];exact h
 case h_11 k=>
  obtain⟨_,a⟩:=a;split at a
  ·rw[a.1];exact⟨⟨j,b.drop _⟩,h.ses,h.lost⟩
  ·rw[a.1];exact h
 case h_12=>rw[a.2.1];exact h
 case h_13 k to_=>
  obtain⟨_,a⟩:=a;split at a
  ·rename_i q;rw[a.1]
   refine⟨⟨j,b.move (by have:=q.2.1;have:=q.2.2;omega)⟩,?_,?_⟩<;>unfold qm1<;>split<;>first|exact h.ses|exact h.lost
  ·rw[a.1];exact h
 case h_14=>rw[a.1];exact h
 case h_15=>rw[a.1];exact h
 case h_16 k=>
  obtain⟨_,a⟩:=a;split at a
  ·rename_i q;rw[a.1];exact⟨⟨j,b.sweep (by have:=q.1;have:=q.2;omega)⟩,h.ses,h.lost⟩
  ·rw[a.1];exact h
 case h_17 k=>
  obtain⟨_,a⟩:=a;split at a
  ·obtain⟨⟨g,r,rfl⟩,_⟩:=a;exact⟨⟨j,b.send (b.wf.to g (List.mem_of_getElem? r)) (b.nt g (List.mem_of_getElem? r))⟩,by rw[(qbk _ _).c,(qbk _ _).ses];exact h.ses,qja h.lost⟩
  ·rw[a.1];exact h
 case h_18 n c=>
  obtain⟨_,a⟩:=a;split at a
  ·rename_i q;rw[a.1];exact DkI.new (by omega) (by omega) (by omega)
  ·rw[a.1];exact h
 case h_19 k key=>
  obtain⟨_,a⟩:=a;split at a
  ·rename_i q
   have f:k.toNat<W.c:=by have:=q.1;have:=q.2;omega
   rw[a.1];exact h.set ⟨_,b.write f _⟩ ((h.ses _ f).write _)
  ·rw[a.1];exact h
 case h_20=>exact a.elim
theorem DkI.does {rest:List ByteArray} (h:DkI W) (a:qj4 i W rest W' er t):DkI W':=by
 unfold qj4 at a;split at a
 ·rw[a.1];exact h
 ·exact h.cmd a
end
end
section
open Go.RowKit
def jew (o:Option Int) (e:Ending):Prop:=match o with
 |some v=>e=.returned (.tuple #[.int .i64 v,.bool true])
 |none=>e=.returned (.tuple #[.int .i64 0,.bool false])
theorem qvs (s:ByteArray) (hs:s.size<=1000000) (w:World) (g:Gl w):
 Calls Tryz.prog 29 #[.string s] w λe w'=>jew (qh9 s) e/\Below w.heap.size w w':=by
 by_cases a:∃v,Lib.parseIntB 64 s.data.toList=.ok v
 ·obtain⟨v,a⟩:=a
  have c:wfI v:=by have:=Lib.parseIntB_bounds a;simp at this;exact⟨by omega,by omega⟩
  have l:=qya s hs v a w
  have d:Hid (qh9 s=if bya (Lib.itoa v)=s then some v else none):=by show qh9 s=_;unfold qh9;rw[a]
  have h:=λw' hb=>qs3 v c w' (g.later (w':=w') hb);have i:=jdv (bya (Lib.itoa v)) s;clear a
  generalize bya (Lib.itoa v)=t at d h i
  go_enter Tryz.func29,Tryz.ntmps29
  go_wp2_with fail
  refine l.mono ?_;rintro e p ⟨rfl,j⟩;replace h:=h p j;by_cases b:t=s
  ·have q:(t.toList==s.toList)=true:=by rw[i];simp[b]
   have k:Hid (qh9 s=some v):=by show qh9 s=_;rw[d.out,if_pos b]
   clear b i d
   go_wp2_with fail
   refine h.mono ?_;rintro e w2 ⟨rfl,m⟩
   go_wp2
   go_ret2;exact⟨by rw[k.out];rfl,qab j m⟩
  ·have q:(t.toList==s.toList)=false:=by rw[i];simp[b]
   have k:Hid (qh9 s=none):=by show qh9 s=_;rw[d.out,if_neg b]
   clear b i d
   go_wp2_with fail
   refine h.mono ?_;rintro e w2 ⟨rfl,m⟩
   go_wp2
   go_ret2;exact⟨by rw[k.out];rfl,qab j m⟩
 ·have o:∀v,Lib.parseIntB 64 s.data.toList≠.ok v:=λv c=>a ⟨v,c⟩;have l:=Tryz.parse_no s (by omega) o w g.es g.er
  have k:Hid (qh9 s=none):=by
   show qh9 s=none;unfold qh9;split
   ·rename_i v c;exact absurd c (o v)
   ·rfl
  clear a o;go_enter Tryz.func29,Tryz.ntmps29
  go_wp2_with fail
  refine l.mono ?_;rintro e p ⟨n,N,rfl,j⟩
  go_wp2
  go_ret2;exact⟨by rw[k.out];rfl,j⟩
theorem qd6 {b o cap:Nat} {l:List Int} (m:l≠[]) (v:l.length<=8) (H:∀x∈l,wfI x) (w:World) (g:Gl w) (hb:b<w.heap.size) (c:∀(j:Nat) x,l[j]?=some x->w.cell? ⟨b,o+j,none⟩=some (.int .i64 x)):
 Calls Tryz.prog 17 #[.slice (some ⟨b,o,none⟩) l.length cap] w λe w'=>e=.returned (.string (bya (qbc l)))/\Below w.heap.size w w':=by
 obtain⟨i0,hi,S,U,V⟩:=info_parts qmq;have n:Hid (Gl w/\(∀x∈l,wfI x)/\b<w.heap.size/\(∀(j:Nat) x,l[j]?=some x->w.cell? ⟨b,o+j,none⟩=some (.int .i64 x))/\l≠[]/\l.length<=8):=⟨g,H,hb,c,m,v⟩;clear g H hb c m v;go_enter Tryz.func17,Tryz.ntmps17
 go_wp2
 go_loopw [3,8] (λI iv wr=>∃(k:Nat) (z:Int),k<=l.length/\z=k/\iv=.int .i64 z/\Hid (wr.ownsRow w.heap.size 9 1 I k ((l.take k).map (λx=>Value.string (qij x)))/\Below w.heap.size w wr)) (λ_ iv _=>l.length-(intOf iv).toNat)
 case atStart=>exact⟨0,0,Nat.zero_le _,rfl,rfl,World.ownsRow_nil w _ _ _,Below.refl _ _⟩
 case round=>
  rename_i I _;obtain⟨k,z,hk,F,rfl,a⟩:=hrel;have W:Hid _:=F;by_cases K:k<l.length
  ·have g1:z<(l.length:Int):=by omega
   have g2:0<=z:=by omega
   have g3:z.toNat=k:=by omega
   have g4:z<8:=by have:=n.out.2.2.2.2.2;omega
   obtain⟨x,B⟩:∃x,l[k]?=some x:=⟨_,List.getElem?_eq_getElem K⟩;obtain⟨C,r,hb,c,_⟩:=n.out;have c0:wr.cell? ⟨b,o+k,none⟩=some (.int .i64 x):=(a.out.2.cell (p:=⟨b,o+k,none⟩) hb).trans (c k x B);have T:=qvb x (r x (List.mem_of_getElem? B)) wr (C.later a.out.2)
   have L:Hid ((l.take (k+1)).map (λx=>Value.string (qij x))=(l.take k).map (λx=>Value.string (qij x))++[.string (qij x)]):=by
        show _=_;rw[List.take_add_one,B];simp
   clear C r hb c F B
   go_wp2_with fail
   refine T.mono ?_;rintro e w2 ⟨rfl,s⟩;have M:=boxed (Below.refl _ w2) (.cells #[.string (qij x)] 9);have G:=qjp (qjp a.out.1 s) M;have i:Hid (Below w.heap.size w w2):=qab a.out.2 s
   go_wp2_with (at_builtin;refine wpList_append_lies _ rfl _ _ 42 rfl w.heap.size 9 i0 (.string ⟨#[]⟩) 1 16 Tryz.underlying42 hi S U V rfl (by decide) _ _ _ rfl G ⟨w2.heap.size,0,none⟩ 1 1 [.string (qij x)] rfl rfl (World.news_of_block (heap_alloc_new w2 (.cells #[.string (qij x)] 9)))?c2 (by decide)?c3 ?c4 ?c5 _ rfl ?_)
   case c2=>intro u N;simp at N;subst N;rfl
   case c3=>have:=n.out.2.2.2.2.2;unfold maxLen;omega
   case c4=>have:=n.out.2.2.2.2.2;omega
   case c5=>have:=i.out.size;simp;omega
   intro D E O P Q X Y
   have Z:Hid (O.ownsRow w.heap.size 9 1 (.slice (some ⟨D,0,none⟩) (k+1) E) (k+1) ((l.take (k+1)).map (λx=>Value.string (qij x)))/\Below w.heap.size w O):=by
        refine⟨by rw[L.out];simpa[List.map_take]using P,?_⟩;exact(i.out.alloc i.out.size _).grown Q (by have:=i.out.size;simp;omega) (λq e=>(G.lt q e).1)
   clear P Q X Y G L M s
   go_wp2
   go_roundw
   case rel=>exact⟨k+1,z+1,K,by have:=W.out;omega,by go_num,Z.out⟩
   case measure=>simp[intOf];omega
  ·have g1:¬z<(l.length:Int):=by omega
   have aa:k=l.length:=by omega
   subst aa;rw[List.take_length]at a;obtain⟨C,r,hb,c,m,v⟩:=n.out;have ab:0<l.length:=List.length_pos_iff.2 m;obtain⟨D,E,rfl,hB,ac⟩:=a.out.1.form ab;have R:=a.out.1.cells (g:=D) rfl
   have ad:l.length<=E:=by
        rcases a.out.1.2 with ⟨h,_⟩|⟨g',c',cur,hv,_,_,hnc,_⟩
        ·cases h
        ·cases hv;exact hnc
   have J:=Tryz.strings_Join D 0 E (l.map qij) ⟨#[32]⟩ wr (λj y d=>by
        have:=R j (.string y) (by rw[List.getElem?_map]at d ⊢;cases hq:l[j]?with
         |none=>rw[hq]at d;cases d
         |some q=>rw[hq]at d;injection d with d;subst d;rfl)
        rcases Nat.eq_zero_or_pos j with rfl|hj
        ·simpa[Addr.add]using this
        ·simpa[Addr.add,Nat.ne_of_gt hj]using this) ac (by simp;omega) (by simpa using ad) (by
         rw[show (⟨#[32]⟩:ByteArray).data.toList=[32]from rfl,qsp];have:=qb7 r
         omega)
   rw[List.length_map,show (⟨#[32]⟩:ByteArray).data.toList=[32]from rfl,qsp]at J;have i:Hid _:=a.out.2;clear C r hb c m v R F a
   go_wp2_with fail
   refine J.mono ?_;rintro e w2 ⟨rfl,s⟩
   go_wp2
   go_ret;exact⟨rfl,qab i.out s⟩
end
section
variable {t:List UInt8}
section
variable {W W':WoS} {j:Nat}
theorem PlI.cmd {i:Nat} {l:List Int} {d:ByteArray} {er:Int} (e:PlI j W) (a:qd3 i W l d W' er t):PlI (j+1) W':=by
 have h:=e.mono (Nat.le_succ j)
 have b:∀{k:Int} {n:Nat},qbt k n->k.toNat<n:=λq=>by have:=q.1;have:=q.2;omega
 unfold qd3 at a;split at a
 case h_1 k=>
  obtain⟨_,a⟩:=a;split at a
  ·rename_i q;rw[a.1];exact(e.abort (b q)).mono (Nat.le_succ j)
  ·rw[a.1];exact h
 case h_2 k o=>
  obtain⟨_,a⟩:=a;split at a
  ·rename_i q;rw[a.1];exact h.send (g:=⟨o.toNat,.ask k.toNat (W.S k.toNat).a0 (W.S k.toNat).a1 (W.S k.toNat).a2 (W.S k.toNat).a3⟩) (by show o.toNat<W.n;exact b q.2.1) (by show 0<=(k.toNat:Int)/\(k.toNat:Int)<(W.n:Int);have:=q.1.1;have:=q.1.2;omega)
  ·rw[a.1];exact h
 case h_3 k=>
  obtain⟨_,a⟩:=a;split at a
  ·rename_i q;rw[a.1];exact(e.begin (b q)).mono (Nat.le_succ j)
  ·rw[a.1];exact h
 case h_4=>exact h.calm a.2.1
 case h_5=>rw[a.1];exact h
 case h_6 k=>
  split at a
  ·rename_i q;rw[a.2.1];exact h.commit (b q)
  ·rw[a.2.1];exact h
 case h_7 k=>
  obtain⟨_,a⟩:=a;split at a
  ·exact h.deliver a.1
  ·rw[a.1];exact h
 case h_8 k key=>
  obtain⟨_,a⟩:=a;split at a
  ·rename_i q;rw[a.1];exact e.write (b q) _
  ·rw[a.1];exact h
 case h_9 k y=>
  obtain⟨_,a⟩:=a;split at a
  ·rename_i q;rw[a.1];exact h.goes q.2.1 (b q.1)
  ·rw[a.1];exact h
 case h_10=>rw[a.2.1];exact h
 case h_11 k=>
  obtain⟨_,a⟩:=a;split at a
  ·rw[a.1];exact h.drop _
  ·rw[a.1];exact h
 case h_12=>rw[a.2.1];exact h
 case h_13 k to_=>
  obtain⟨_,a⟩:=a;split at a
  ·rename_i q;rw[a.1];exact h.move (b q.2)
  ·rw[a.1];exact h
 case h_14=>rw[a.1];exact h
 case h_15=>rw[a.1];exact h
 case h_16 k=>
  obtain⟨_,a⟩:=a;split at a
  ·rename_i q;rw[a.1];exact h.sweep (b q)
  ·rw[a.1];exact h
 case h_17 k=>
  obtain⟨_,a⟩:=a;split at a
  ·obtain⟨⟨g,f,rfl⟩,_⟩:=a;exact h.send (e.wf.to g (List.mem_of_getElem? f)) (e.nt g (List.mem_of_getElem? f))
  ·rw[a.1];exact h
 case h_18 n c=>
  obtain⟨_,a⟩:=a;split at a
  ·rename_i q;rw[a.1];exact(PlI.new (n:=n.toNat) (c:=c.toNat) (by omega) (by omega) (by omega)).mono (Nat.zero_le _)
  ·rw[a.1];exact h
 case h_19 k key=>
  obtain⟨_,a⟩:=a;split at a
  ·rename_i q;rw[a.1];exact e.write (b q) _
  ·rw[a.1];exact h
 case h_20=>exact a.elim
theorem PlI.ans {d:ByteArray} (c:PlI j W) (h:qee W d W' t):PlI (j+1) W':=by
 have b:=c.mono (Nat.le_succ j);unfold qee at h;split at h
 ·rw[h.1];exact b
 ·split at h
  ·rw[h.1];exact b
  ·obtain⟨er,u,a,_⟩:=h;unfold qj4 at a;split at a
   ·rw[a.1];exact b
   ·exact c.cmd a
theorem qfm.few {l:List ByteArray} {s:List UInt8} (h:qfm W l s W'):PlI j W->PlI (j+l.length) W':=by
 induction h with
 |nil=>exact λh=>h
 |snoc h1 h2 ih=>
  intro h;rw[List.length_append];exact(ih h).ans h2
end
end
def qds:List UInt8->List (List UInt8)
 |[]=>[[]]
 |c::r=>if c=10 then []::qds r else
  match qds r with
  |h::t=>(c::h)::t
  |[]=>[[c]]
def qgn (s:List UInt8):List (List UInt8):=qds (Lib.trimSuffix s [10])
theorem qs0 (s:List UInt8):qds s≠[]:=by
 cases s with
 |nil=>simp[qds]
 |cons c r=>
  unfold qds;split
  ·simp
  ·split<;>simp
theorem qif (c:UInt8) (r:List UInt8):qds (c::r)=if c=10 then []::qds r else match qds r with|h::t=>(c::h)::t|[]=>[[c]]:=rfl
theorem qzg (s t:List UInt8):qds (s++10::t)=qds s++qds t:=by
 induction s with
 |nil=>simp[qds]
 |cons c r ih=>
  rw[List.cons_append,qif,qif c r];by_cases e:c=10
  ·rw[if_pos e,if_pos e,ih];rfl
  ·rw[if_neg e,if_neg e,ih];cases h:qds r with
   |nil=>exact absurd h (qs0 r)
   |cons x y=>rfl
theorem qwg (a:List UInt8):Lib.trimSuffix (a++[10]) [10]=a:=by
 unfold Lib.trimSuffix;rw[if_pos (by simp[Lib.hasSuffix])];simp
theorem q9a (a b:List UInt8) (hb:b≠[]):Lib.trimSuffix (a++b) [10]=a++Lib.trimSuffix b [10]:=by
 obtain⟨c,x,rfl⟩:∃c x,b=c++[x]:=by
  rcases List.eq_nil_or_concat b with e|⟨c,x,e⟩
  ·exact absurd e hb
  ·exact⟨c,x,by simpa using e⟩
 by_cases e:x=10
 ·subst e;rw[<-List.append_assoc,qwg,qwg]
 ·unfold Lib.trimSuffix
  have no:∀z:List UInt8,¬Lib.hasSuffix (z++[x]) [10]=true:=λz q=>by
   have d:=List.isSuffixOf_iff_suffix.1 q;obtain⟨u,f⟩:=d;have:=List.append_inj_right' f rfl;injection this with this;exact e this.symm
  rw[if_neg (by rw[<-List.append_assoc];exact no _),if_neg (no _)]
theorem q1u:Lib.cut [] [10]=([],[],false):=by decide
theorem qxo (c:UInt8) (r:List UInt8):Lib.cut (c::r) [10]=if c=10 then ([],r,true)else (c::(Lib.cut r [10]).1,(Lib.cut r [10]).2.1,(Lib.cut r [10]).2.2):=by
 have a:Lib.index (c::r) [10]=if c=10 then 0 else if Lib.index r [10]== -1 then-1 else Lib.index r [10]+1:=by
  conv=>lhs;unfold Lib.index
  by_cases e:c=10
  ·simp[e,List.isPrefixOf]
  ·simp[e,List.isPrefixOf,Ne.symm e]
 have d:=Lib.index_ge r [10];unfold Lib.cut;rw[a];by_cases e:c=10
 ·simp[e]
 ·rw[if_neg e,if_neg e];by_cases q:Lib.index r [10]= -1
  ·simp[q]
  ·have b:0<=Lib.index r [10]:=by omega
   rw[if_neg (show ¬(Lib.index r [10]== -1)=true by simp[q]),if_pos (show 0<=Lib.index r [10]+1 by omega),if_pos b,show (Lib.index r [10]+1).toNat=(Lib.index r [10]).toNat+1 by omega];simp
theorem qzk (s:List UInt8):qds s=if (Lib.cut s [10]).2.2=true then (Lib.cut s [10]).1::qds (Lib.cut s [10]).2.1 else [(Lib.cut s [10]).1]:=by
 induction s with
 |nil=>rw[q1u];rfl
 |cons c r ih=>
  rw[qif,qxo];by_cases e:c=10
  ·simp[e]
  ·rw[if_neg e,if_neg e,ih];by_cases q:(Lib.cut r [10]).2.2=true
   ·simp[q]
   ·simp[q]
theorem q65 (s:List UInt8) (h:(Lib.cut s [10]).2.2=true):(Lib.cut s [10]).2.1.length<s.length:=by
 induction s with
 |nil=>rw[q1u]at h;cases h
 |cons c r ih=>
  rw[qxo]at h ⊢;by_cases e:c=10
  ·simp[e]
  ·rw[if_neg e]at h ⊢;have:=ih h;simp only[List.length_cons];omega
def qcv (c:UInt8):List UInt8->List (List UInt8)
 |[]=>[[]]
 |x::r=>if x=c then []::qcv c r else
  match qcv c r with
  |h::t=>(x::h)::t
  |[]=>[[x]]
theorem qii (s:List UInt8):qds s=qcv 10 s:=by
 induction s with
 |nil=>rfl
 |cons x r ih=>
  unfold qds qcv;rw[ih]
  generalize qcv 10 r=z
  cases z<;>rfl
theorem qiq (c x:UInt8) (r:List UInt8):Lib.index (x::r) [c]=if x=c then 0 else if Lib.index r [c]== -1 then-1 else Lib.index r [c]+1:=by
 conv=>lhs;unfold Lib.index
 by_cases e:x=c
 ·simp[e,List.isPrefixOf]
 ·simp[e,List.isPrefixOf,Ne.symm e]
theorem qqz (c:UInt8):Lib.index [] [c]= -1:=by unfold Lib.index;simp
theorem qwv (c:UInt8) (s:List UInt8) (h:s.count c=0):Lib.index s [c]= -1:=by
 induction s with
 |nil=>exact qqz c
 |cons x r ih=>
  have e:¬x=c:=λe=>by subst e;simp at h
  rw[qiq,if_neg e,ih (by rw[List.count_cons]at h;omega)];rfl
theorem qvx (c:UInt8) (s:List UInt8):∀k,s.count c<=k->Lib.splitK [c] 0 k s=qcv c s:=by
 induction s with
 |nil=>
  intro k _;cases k with
  |zero=>rfl
  |succ k=>unfold Lib.splitK;rw[qqz];rfl
 |cons x r ih=>
  intro k a;by_cases e:x=c
  ·subst e;rw[List.count_cons_self]at a;obtain⟨m,rfl⟩:∃m,k=m+1:=⟨k-1,by omega⟩;unfold Lib.splitK qcv;rw[qiq,if_pos rfl,if_pos rfl];show []::Lib.splitK [x] 0 m r=_;rw[ih m (by omega)]
  ·have d:r.count c<=k:=by rw[List.count_cons]at a;simp[e]at a;exact a
   have I:=ih k d;have g:=Lib.index_ge r [c];unfold qcv;rw[if_neg e,<-I];by_cases q:Lib.index r [c]= -1
   ·have b:Lib.index (x::r) [c]= -1:=by rw[qiq,if_neg e,q];rfl
    cases k with
    |zero=>rfl
    |succ m=>
     unfold Lib.splitK;rw[q,b];rfl
   ·cases k with
    |zero=>exact absurd (qwv c r (by omega)) q
    |succ m=>
     have b:Lib.index (x::r) [c]=Lib.index r [c]+1:=by rw[qiq,if_neg e,if_neg (by simpa using q)]
     unfold Lib.splitK;rw[b,if_neg (show ¬(Lib.index r [c]+1== -1)=true by simp;omega),if_neg (show ¬(Lib.index r [c]== -1)=true by simpa using q)]
     have f:(Lib.index r [c]+1).toNat=(Lib.index r [c]).toNat+1:=by omega
     rw[f];rfl
end Go.Proofs.YtoanjdndmlffdaaGreatDoor
