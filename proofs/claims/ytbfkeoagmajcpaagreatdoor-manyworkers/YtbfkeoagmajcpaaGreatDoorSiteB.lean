import Derived.Test.YtbfkeoagmajcpaaGreatDoorSiteA
import Derived.Deep.RegionHeld3
set_option maxHeartbeats 8000000
set_option maxRecDepth 100000
set_option linter.defProp false
namespace Go.Proofs.YtbfkeoagmajcpaaGreatDoor
open Go.RowKit
variable {A b bm k n p:Nat} {F:Np} {L:List Ver} {S:qe} {W w w':Wl} {a0 a1 a2 a3 s:Int} {l:List Hd} {lv:Vl} {m:TxM} {t:Ver} {v:Bool}
section
open _root_.Go.Proofs.Tryz
def qng {P:Pq} (w:Wl) (t e d:Tp) (z:Vl) (f:P.underlying t=some (.slice e)) (h:∀w,(zeroValue e).run P w=.ok z w) (b o n c:Nat) (s:0<n)
 (l:∀u∈(Builtin.zeroCells z.cells n).toList,u.oneCell'=true) (q:∀j,j<(Builtin.zeroCells z.cells n).size->(w.cell? (AD b (o+j))).isSome=true) (r:∀j,j<(Builtin.zeroCells z.cells n).size->w.frozen? (AD b (o+j))=false):
 (Builtin.clear_ #[t] d #[.slice (some (AD b o)) n c]).run P w=.ok (.tuple #[]) (w.setCells b o (Builtin.zeroCells z.cells n).toList):=by
 have a:=run_storeCells_cells (P:=P) b o (Builtin.zeroCells z.cells n).toList 0 w (by simpa using q) (by simpa using r) l;simp only[Nat.add_zero]at a;obtain⟨m,rfl⟩:∃m,n=m+1:=⟨n-1,oe⟩;simp[Builtin.clear_,run_underlying f,h,a]
def qu1 (n:Nat):∀u∈(Builtin.zeroCells (Value.agg YA).cells n).toList,u.oneCell'=true:=by
 intro u a;simp only[Builtin.zeroCells,Array.toList_map,jcz]at a;obtain⟨i,_,rfl⟩:=a;have b:(Value.agg YA).cells=YA:=rfl;rw[b];have d:i%6<6:=Nat.mod_lt _ oj;have e:(#[Value.int .i64 0,U 0,U 0,U 0,.string ⟨#[]⟩,.bool false]:Av).size=6:=rfl;rw[e];generalize i%6=m at d;match m,d with
 |0,_=>rfl
 |1,_=>rfl
 |2,_=>rfl
 |3,_=>rfl
 |4,_=>rfl
 |5,_=>rfl
def qq8:∀(M:List Ver) (i:Nat) (v:Ver),ja (M.set i v)=((((((ja M).set (i*6) (U v.wall)).set (i*6+1) (U v.count)).set (i*6+2) (U v.site)).set (i*6+3) (U v.seq)).set (i*6+4) (.string v.data)).set (i*6+5) (.bool v.gone)
 |[],i,v=>by simp[ja]
 |x::M,0,v=>by simp[ja,qh]
 |x::M,i+1,v=>by
  have e:∀r,(i+1)*6+r=(qh x).length+(i*6+r):=λr=>by rw[qaw];omega
  have a:(i+1)*6=(qh x).length+i*6:=by rw[qaw];omega
  rw[List.set_cons_succ,qcv,qcv,e 1,e 2,e 3,e 4,e 5,a,qq8 M i v];simp only[List.set_append_right _ _ (Nat.le_add_right _ _),Nat.add_sub_cancel_left]
abbrev qxj (w:Wl) (g o:Nat) (x:Ver):Wl:=(((((w.setCell (AD g o) (U x.wall)).setCell (AD g (o+1)) (U x.count)).setCell (AD g (o+2)) (U x.site)).setCell (AD g (o+3)) (U x.seq)).setCell (AD g (o+4)) (.string x.data)).setCell (AD g (o+5)) (.bool x.gone)
variable {g i:Nat} {M:List Ver}
def qii {d:Nat} {T:Tp} (h:w.ownsRow 0 T 6 (.slice (PT g) n d) n (ja M)) (v:Ver):(qxj w g (i*6) v).ownsRow 0 T 6 (.slice (PT g) n d) n (ja (M.set i v))/\yu g w (qxj w g (i*6) v):=by
 have s0:=h.stored (i*6) (U v.wall);have s1:=s0.1.stored (i*6+1) (U v.count);have s2:=s1.1.stored (i*6+2) (U v.site);have s3:=s2.1.stored (i*6+3) (U v.seq);have a:=s3.1.stored (i*6+4) (.string v.data);have b:=a.1.stored (i*6+5) (.bool v.gone);refine⟨by rw[qq8];exact b.1,?_⟩;exact(((((show yu g _ _ from s0.2).trans s1.2 (.inl rfl)).trans s2.2 (.inl rfl)).trans s3.2 (.inl rfl)).trans a.2 (.inl rfl)).trans b.2 (.inl rfl)
def qoa (w:Wl) (sv:Vl) (L':List Ver) (v':Vl) (w':Wl):Prop:=
 w'.ownsRow 0 218 6 v' L'.length (ja L')/\w.grownBy w' sv.ownBlock/\v'.ownBlock=sv.ownBlock
structure qev (w:Wl) (g n cap:Nat) (L:List Ver) (p:Ver->Bool) (i k:Nat) (M:List Ver):Prop where
 own:w.ownsRow 0 218 6 (.slice (PT g) n cap) n (ja M)
 len:M.length=n
 head:M.take i=(L.take k).filter p
 tail:M.drop k=L.drop k
 lt:i<k
variable {p:Ver->Bool}
def qev.at {a:Nat} (h:qev w g n a L p i k M):jx M k=jx L k:=by
 have e:=congrArg List.head? h.tail;rw[List.head?_drop,List.head?_drop]at e;simp only[jx,List.getD,e]
def qot (a:k<L.length):L.take (k+1)=L.take k++[jx L k]:=by
 rw[jc1 a,qem a]
def qxo (b:k<=L.length) (h:∀j,j<k->p (jx L j)=true):(L.take k).filter p=L.take k:=by
 rw[List.filter_eq_self];intro v a;obtain⟨i,d,rfl⟩:=jdm.1 a;rw[jc5]at d;have:=h i oe;rw[qem oe]at this;rw[List.getElem_take];exact this
def qev.later {w':Wl} {b:Nat} (h:qev w g n b L p i k M) (a:Bw w w'):qev w' g n b L p i k M:=⟨qgp h.own a,h.len,h.head,h.tail,h.lt⟩
def qev.skip {d:Nat} (h:qev w g n d L p i k M) (a:k<L.length) (b:p (jx L k)=false):qev w g n d L p i (k+1) M:=by
 refine⟨h.own,h.len,?_,?_,Nat.lt_succ_of_lt h.lt⟩
 .rw[qot a,jdk,h.head];simp[b]
 rw[<-List.drop_drop,h.tail,List.drop_drop]
def qev.keep {d:Nat} (h:qev w g n d L p i k M) (c:L.length=n) (a:k<L.length) (b:p (jx L k)=true):qev (qxj w g (i*6) (jx L k)) g n d L p (i+1) (k+1) (M.set i (jx L k)):=by
 have e:i<M.length:=by have:=h.lt;have:=h.len;omega
 refine⟨(qii h.own (jx L k)).1,by rw[List.length_set];exact h.len,?_,?_,Nat.succ_lt_succ h.lt⟩
 .rw[qot a,jdk,<-h.head,jc1 (by simpa using e),List.getElem_set_self,List.take_set_of_le (jcd _)];simp[b]
 rw[List.drop_set_of_lt (by have:=h.lt;omega),<-List.drop_drop,h.tail,List.drop_drop]
def qyk {sv:Vl} {a0 a1 a2 a3:Int} {H:Ver} {A S:Nat} (w:Wl) (X:w.ownsRow 0 218 6 sv L.length (ja L)) (hok:∀v∈L,0<=v.site/\v.site<=3) (hl:L.length<=1000) (z:qd w A [U a0,U a1,U a2,U a3]) (RS:qd w S (qh H)) (hA:sv.ownBlock≠some A) (hS:sv.ownBlock≠some S):
 Ca 219 #[sv,.func (.func 220) #[] #[PP A,PP S]] w λe w'=>
  ∃v',e=.returned v'/\qoa w sv (L.filter λv=>!qhu a0 a1 a2 a3 H v) v' w':=by
 obtain⟨a,cap,rfl,I⟩:=qfo X;have hix:=q2b w I hok hl z RS;have HOK:=hd1 hok;obtain⟨P,hP⟩:∃P:Ver->Bool,P=λv=>!qhu a0 a1 a2 a3 H v:=⟨_,rfl⟩;have J:=hd1 hP;rw[<-hP];clear hok hP;go_enter func219,ntmps219
 go_wp2_with fail
 refine hix.mono ?_;rintro e w1 ⟨r,rfl,hI,d⟩;obtain⟨rfl,hall⟩|⟨k,F,rfl,C,hnt⟩:=hI
 .have FE:Hid (L.filter P=L):=by
   show L.filter P=L;rw[List.filter_eq_self,J.out];intro v hv;simp[hall v hv]
  have own1:=qgp X d;clear hall;go_wp2_with fail
  go_ret;rw[FE.out];exact⟨_,rfl,own1,⟨d.os,d.tape,d.output,d.size,λk F _=>d.block k F⟩,rfl⟩
 obtain⟨g,hgl,rfl,hcc⟩:∃b,b<w.heap.size/\a=some (AD b 0)/\∀i r u,i<L.length->(qh (jx L i))[r]?=some u->w.cell? (AD b (i*6+r))=some u:=by
  obtain h0|h0:=I.held
  .rw[h0]at F;simp at F
  exact h0
 obtain⟨n,Z⟩:∃n,L.length=n:=⟨_,rfl⟩;have hc1:=I.len;have hc2:=I.cap;have D0:qev w1 g n cap L P k (k+1) L:=by
  rw[<-Z];refine⟨qgp X d,rfl,?_,rfl,Nat.lt_succ_self _⟩;rw[qot F,jdk,qxo oe (λj hj=>by rw[J.out];simp[hnt j hj]),J.out];simp[C]
 have hgA:A≠g:=λe=>hA mi;have hgS:S≠g:=λe=>hS mi;have K:=hd1 Z;rw[Z]at hl hc1 F ⊢;have ne1:((k:Int)== -1)=false:=beq_eq_false_iff_ne.2 oe;have D:=z.later d;have E:=RS.later d;have N:yu g w w1:=yu.ofBelow d;clear hcc I X hnt C Z hix z RS d hA hS
 go_wp2_with fail
 go_loopw [5,6] (λs5 s6 wr=>∃(i j:Nat) (f s:Int) (M:List Ver),j<=n/\f=i/\s=j/\s5=U f/\s6=U s/\Hid (qev wr g n cap L P i j M)/\qd wr A [U a0,U a1,U a2,U a3]/\qd wr S (qh H)/\yu g w wr) (λ_ j _=>n-(intOf j).toNat)
 case atStart=>exact⟨k,k+1,k,(k:Int)+1,L,oe,rfl,oe,rfl,oI,D0,D,E,N⟩
 clear D0 D E N;obtain⟨i,j,f,s,M,hj,hzi,hzj,rfl,rfl,DD,z,RS,O⟩:=hrel;have m:=DD.out;have hij:=m.lt;have hil:i<n:=oe;have HZ:=hd2 hzi hzj;by_cases hlt:j<n
 .have h1:s<(n:Int):=oe;have h2:s.toNat=j:=oe;have h3:0<=s:=oe;have h4:f<(n:Int):=oe;have h5:f.toNat=i:=oe;have h6:0<=f:=oe;clear hzi hzj;obtain⟨y,hy⟩:∃y,jx L j=y:=⟨_,rfl⟩;have hsy:=HOK.out _ (qkm (l:=L) (i:=j) (by rw[K.out];exact hlt));rw[hy]at hsy;have hMy:=m.at.trans hy;have q:=λr u (h:(qh (jx M j))[r]?=some u)=>(m.own.cells (g:=g) rfl _ u (ql4 M j r u (by rw[m.len];exact hlt) h));have x:=λr u (h:(qh y)[r]?=some u)=>(by have:=q r u (by rw[hMy];exact h);rwa [qal]at this:wr.cell? (AD g (j*6+r))=some u);have x0:wr.cell? (AD g (j*6))=some (U y.wall):=x 0 _ rfl;have x1:=x 1 _ rfl;have x2:=x 2 _ rfl;have x3:=x 3 _ rfl;have x4:=x 4 _ rfl;have x5:=x 5 _ rfl;have Y:=hd1 hy;have HS:=hd1 hsy;have hbx:=boxed (jcc _ wr) (.cells #[U y.wall,U y.count,U y.site,U y.seq,.string y.data,.bool y.gone] 218);have RX:=qd.new (w:=wr) (T:=218) (qh y) rfl;change qd (wr.nu #[U y.wall,U y.count,U y.site,U y.seq,.string y.data,.bool y.gone] 218) wr.heap.size (qh y)at RX;have D:=z.later hbx;have E:=RS.later hbx;have DR1:=m.later hbx;have N:=O.trans (yu.ofBelow (g:=g) hbx) (.inl rfl)
  have hgw:g<wr.heap.size:=by have:=O.size;omega
  clear hy hsy hMy q x m DD z RS O;have D1:=hd1 DR1;clear DR1;cases C:qhu a0 a1 a2 a3 H y
  .have Q:=hd1 C;clear C;go_wp2_with fail
   refine(qsy Q.out HS.out.1 HS.out.2 _ D E).mono ?_;rintro e w2 ⟨rfl,c⟩;have o:=D1.out.later c;have RA2:=D.later c;have RS2:=E.later c;have RX2:=RX.later c;have O2:=N.trans (yu.ofBelow (g:=g) c) (.inl rfl);obtain⟨old,hold⟩:∃old,jx M i=old:=⟨_,rfl⟩
   have q:=λr u (h:(qh old)[r]?=some u)=>(by
        have:=(o.own.cells (g:=g) rfl _ u (ql4 M i r u (by rw[o.len];exact hil) (by rw[hold];exact h)));rwa [qal]at this:w2.cell? (AD g (i*6+r))=some u)
   have z0:w2.cell? (AD g (i*6))=some (U old.wall):=q 0 _ rfl;have z1:=q 1 _ rfl;have z2:=q 2 _ rfl;have z3:=q 3 _ rfl;have z4:=q 4 _ rfl;have z5:=q 5 _ rfl;have fz:=λt=>o.own.frozenAt t;obtain⟨y0,y1,y2,y3,y4,y5⟩:=RX2.c6;have DK:=o.keep K.out (by rw[K.out];exact hlt) (by rw[Y.out,J.out];simp[Q.out]);rw[Y.out]at DK;have O3:=O2.trans (qii (i:=i) o.own y).2 (.inl rfl);have RA3:=RA2.only (qii (i:=i) o.own y).2 hgA;have RS3:=RS2.only (qii (i:=i) o.own y).2 hgS;have DK':=hd1 DK;clear q hold o RA2 RS2 O2 DK RX2 c
   go_wp2_with fail
   go_roundw
   case rel=>exact⟨i+1,j+1,f+1,s+1,M.set i y,oe,oK,oK,oI,oI,DK',RA3,RS3,O3⟩
   simp[intOf];omega
  have Q:=hd1 C;clear C;go_wp2_with fail
  refine(qsy Q.out HS.out.1 HS.out.2 _ D E).mono ?_;rintro e w2 ⟨rfl,c⟩;have o:=hd1 ((D1.out.later c).skip (by rw[K.out];exact hlt) (by rw[Y.out,J.out];simp[Q.out]));have RA2:=D.later c;have RS2:=E.later c;have O2:=N.trans (yu.ofBelow (g:=g) c) (.inl rfl);clear c;go_wp2_with fail
  go_roundw
  case rel=>exact⟨i,j+1,f,s+1,M,oe,oK,oK,rfl,oI,o,RA2,RS2,O2⟩
  simp[intOf];omega
 have hjn:j=n:=oe;have h1:¬s<(n:Int):=oe;have h5:f.toNat=i:=oe;have h6:0<=f:=oe;have h7:f<=(n:Int):=oe;have h8:¬(cap=i):=oe;obtain⟨g1,cap1,cur,h',hB,hg,hnc,hcm,hcs,htake⟩:=m.own.2.resolve_left (λh=>by simp at h);simp only[Value.slice.injEq,Option.some.injEq,Addr.mk.injEq,and_true,true_and]at h';obtain⟨rfl,rfl⟩:=h';have hz6:(Value.agg YA).cells.size=6:=rfl;obtain⟨G,hZS⟩:∃G,G=Builtin.zeroCells (Value.agg YA).cells (n-i):=⟨_,rfl⟩;have hZl:G.size=(n-i)*6:=by rw[hZS,size_zeroCells,hz6]
 have hcl:∀ty,(Builtin.clear_ #[184] ty #[.slice (some (AD g (i*6))) (n-i) (cap-i)]).run prog wr=.ok (.tuple #[]) (wr.setCells g (i*6) G.toList):=λty=>by
  rw[hZS];refine qng wr _ 218 ty _ underlying184 zeroValue218 g (i*6) (n-i) (cap-i) oe (qu1 _) (λt R=>?_) (λt R=>frozen_of_row wr g _ cur _ hg);rw[size_zeroCells,hz6]at R;rw[cell_of_row wr g _ cur _ (0,0) hg,jde oe];rfl
 obtain⟨V,W⟩:∃V,V=wr.setCells g (i*6) G.toList:=⟨_,rfl⟩;have hLF:L.filter P=M.take i:=by
  rw[m.head,List.take_of_length_le (by rw[K.out];omega)]
 have hLl:(M.take i).length=i:=by rw[jc5,m.len];omega
 have OUT:Hid (qoa w (.slice (PT g) n cap) (L.filter P) (.slice (PT g) i cap) V):=by
  obtain⟨c1,q1,x⟩:=qat g G.toList (i*6) wr hg;rw[<-W]at q1;have OK:=qfz (w:=V) (B:=0) (n:=i) (cap:=cap) (k:=6) (xs:=ja (M.take i)) (jcw _) q1 hcm oe oe (by rw[qbe,hLl]) (λt u hu=>by
   have R:t<i*6:=by have:=(jck.1 hu).1;rwa [qbe,hLl]at this
   rw[W,World.cell?_setCells_out g _ _ _ _ (λ_ _=>.inl R)];have:=m.own.cells (g:=g) rfl t u (by rw[<-qin,List.getElem?_take,if_pos R]at hu;exact hu);rwa [qal]at this)
  rw[hLF];refine⟨by rw[hLl];exact OK,?_,rfl⟩;have o2:yu g wr V:=by rw[W];exact zg _ _ _ _
  exact O.trans o2 (.inl rfl)
 rw[<-W]at hcl;clear W hZS hZl hz6 hLF hLl hB hg hnc hcm hcs htake m DD O z RS hzi hzj;go_wp2_with fail
 go_ret;exact⟨_,rfl,OUT.out⟩
end
section
def qd3 (l:List Hd) (k:Nat):List Ver:=(l.filter λh=>decide (h.key=(k:Int))).map (·.v)
def q4c {v:Ver}:v∈qd3 l k↔(⟨k,v⟩:Hd)∈l:=by
 unfold qd3;rw[jcz];constructor
 .rintro ⟨⟨a,u⟩,h,rfl⟩;have:=jdq.1 h;have e:a=(k:Int):=of_decide_eq_true this.2;subst e;exact this.1
 intro h;exact⟨⟨k,v⟩,jdq.2 ⟨h,oi⟩,rfl⟩
def qna (a b:List Hd) (k:Nat):qd3 (a++b) k=qd3 a k++qd3 b k:=by simp[qd3]
def qrg (k:Nat) (v:Ver):qd3 [⟨k,v⟩] k=[v]:=by simp[qd3]
def qoe {a:Int} (v:Ver) (h:a≠(k:Int)):qd3 [⟨a,v⟩] k=[]:=by simp[qd3,h]
def qnc:∀(l:List Hd),(∀h∈l,inB h.key 0 7=true)->(qd3 l 0).length+(qd3 l 1).length+(qd3 l 2).length+(qd3 l 3).length+(qd3 l 4).length+(qd3 l 5).length+(qd3 l 6).length+(qd3 l 7).length=l.length
 |[],_=>rfl
 |⟨key,v⟩::l,h=>by
  have d:=qnc l (λx b=>h x (jdc _ b));have c:=jk.1 (h ⟨key,v⟩ (List.mem_cons_self ..));simp only at c;have e:∀k,qd3 (⟨key,v⟩::l) k=qd3 [⟨key,v⟩] k++qd3 l k:=λk=>qna [⟨key,v⟩] l k
  have s:∀k:Nat,(qd3 [⟨key,v⟩] k).length=if key=(k:Int)then 1 else 0:=λk=>by
   by_cases a:key=(k:Int)
   .rw[if_pos a,a,qrg];rfl
   rw[if_neg a,qoe v a];rfl
  simp only[e,jcl,s,List.length_cons]
  have:key=0\/key=1\/key=2\/key=3\/key=4\/key=5\/key=6\/key=7:=oe;obtain rfl|rfl|rfl|rfl|rfl|rfl|rfl|rfl:=this<;>simp<;>omega
def qqr {a b:Ver} (h:qw a b=true):qw b a=false:=by
 cases hq:qw b a
 .rfl
 rw[qar]at h hq;omega
def qrf (f:qbr L) (e:qu8 L t p):qfa L t p=true↔∃y∈L,qs8 y t:=by
 unfold qfa;rw[jct,decide_eq_true_eq,decide_eq_true_eq,q18];constructor
 .rintro ⟨b,c⟩;exact⟨_,qkm b,c⟩
 rintro ⟨y,g,a⟩;obtain⟨j,d,rfl⟩:=jdm.1 g;rw[<-qem d]at a;have i:¬qw (jx L j) t=true:=by
  rw[qar];obtain⟨m,n,o⟩:=a;omega
 have q:p<=j:=by
  obtain h|h:=jc7 j p
  .exact absurd (e.2.1 j h) i
  exact h
 obtain h|h:=jc7 p j
 .have b:=f.at h d;have c:=e.2.2 p (jcd _) oe
  have:qw (jx L p) t=true:=by
   rw[qar]at b ⊢;obtain⟨m,n,o⟩:=a;omega
  rw[c]at this;cases this
 obtain rfl:p=j:=oe;exact⟨d,a⟩
def qzk (e:qbr L) (f:qu8 L t p) (q:qfa L t p=false):qbr (qj0 L p t):=by
 have r:∀y∈L,¬qs8 y t:=λy c s=>by
  have:=(qrf e f).2 ⟨y,c,s⟩;rw[q]at this;cases this
 have j:∀y∈L.take p,qw y t=true:=λy c=>by
  obtain⟨i,w,rfl⟩:=jdm.1 c;rw[jc5]at w;rw[List.getElem_take,<-qem oe];exact f.2.1 i oe
 have m:∀y∈L.drop p,qw t y=true:=λy c=>by
  have n:=List.mem_of_mem_drop c;obtain⟨i,w,rfl⟩:=jdm.1 c;rw[jdt]at w;rw[List.getElem_drop]at n ⊢;have o:=f.2.2 (p+i) oe oe;rw[qem oe]at o;cases hq:qw t L[p+i]
  .exact absurd (qmd o hq) (r _ n)
  rfl
 unfold qbr qj0 at*;rw[jcy,List.pairwise_append,List.pairwise_append];refine⟨e.sublist (List.take_sublist _ _),⟨List.pairwise_singleton _ _,e.sublist (List.drop_sublist _ _),λa d b g=>?_⟩,λa d b g=>?_⟩
 .rw[jcj.1 d];exact m b g
 obtain h|h:=jcf.1 g
 .rw[jcj.1 h];exact j a d
 have u:=j a d;have v:=m b h;rw[qar]at u v ⊢;omega
def q6o (L:List Ver) (p:Nat) (t:Ver):(L++[t]).Perm (qj0 L p t):=by
 unfold qj0;have e:=(jds p L).symm
 have:(L++[t]).Perm (L.take p++L.drop p++[t]):=by rw[<-e]
 refine this.trans ?_;rw[jcy,jcy];exact List.Perm.append_left _ List.perm_append_comm
def q4l (m:qfk l) (a:qbr L) (b:∀v,v∈L↔(⟨k,v⟩:Hd)∈l):zn k a0 a1 a2 a3 l=qdi a0 a1 a2 a3 L:=by
 cases hb:qdi a0 a1 a2 a3 L with
 |none=>
  unfold qdi at hb;rw[nD]at hb;cases hl:zn k a0 a1 a2 a3 l with
  |none=>rfl
  |some v=>
   obtain⟨⟨h,n,e,f,c⟩,_⟩:=qlb hl;obtain⟨w,u⟩:=h;simp only at e f;subst e f;exact absurd c (hb u (List.mem_reverse.2 ((b u).2 n)))
 |some v=>
  unfold qdi at hb;obtain⟨c,x,o,e,q⟩:=List.find?_eq_some_iff_append.1 hb;have d:L=o.reverse++v::x.reverse:=by
   have:=congrArg List.reverse e;rw[List.reverse_reverse]at this;rw[this];simp
  rw[q3i m];have r:v∈L:=by rw[d];simp
  refine⟨⟨⟨k,v⟩,(b v).1 r,rfl,rfl,c⟩,?_⟩;rintro ⟨w,u⟩ s g i;simp only at g i;subst g;have j:=(b u).2 s;rw[d]at j;unfold qbr at a;rw[d,List.pairwise_append]at a;obtain h|h:=jcf.1 j
  .exact qqr (a.2.2 u h v oi)
  obtain h|h:=jdd.1 h
  .rw[h];exact qgb v
  have:=q u (List.mem_reverse.1 h);rw[i]at this;cases this
def q6m (a b:Ver):eqV a b=eqV b a:=by
 unfold eqV;rw[Bool.eq_iff_iff];simp only[jct,beq_iff_eq];constructor<;>(rintro ⟨⟨⟨⟨⟨c,d⟩,e⟩,f⟩,g⟩,h⟩;exact⟨⟨⟨⟨⟨c.symm,d.symm⟩,e.symm⟩,f.symm⟩,g.symm⟩,h.symm⟩)
def q32 (c:(qd3 l k).Perm L) (a:zn k a0 a1 a2 a3 l=qdi a0 a1 a2 a3 L):
 (qd3 (qcr a0 a1 a2 a3 l) k).Perm (L.filter λv=>!qhu a0 a1 a2 a3 ((qdi a0 a1 a2 a3 L).getD jq) v):=by
 have e:qd3 (qcr a0 a1 a2 a3 l) k=(qd3 l k).filter λv=>!qhu a0 a1 a2 a3 ((qdi a0 a1 a2 a3 L).getD jq) v:=by
  unfold qd3 qcr;rw[List.filter_map,List.filter_filter,List.filter_filter];congr 1;apply List.filter_congr;rintro ⟨h,v⟩ d;by_cases b:h=(k:Int)
  .subst b;simp only[decide_true,Bool.true_and,Bool.and_true,Function.comp];unfold qfh qhu;rw[a];simp only;cases hb:qdi a0 a1 a2 a3 L with
   |none=>
    rw[hb]at a;have:=qpu a ⟨k,v⟩ d rfl;simp only at this;simp[qga,this]
   |some u=>
    simp only[qga,Option.getD_some,Bool.not_true,Bool.false_or];rw[q6m u v];cases qdp a0 a1 a2 a3 v<;>cases eqV v u<;>rfl
  simp[b]
 rw[e];exact c.filter _
def qqz (h:qbr L) (p:Ver->Bool):qbr (L.filter p):=List.Pairwise.filter p h
def upd {α:Type} (f:Nat->α) (k:Nat) (x:α):Nat->α:=λi=>if i=k then x else f i
variable {α:Type}
def qde (f:Nat->α) (k:Nat) (x:α):upd f k x k=x:=if_pos rfl
def qax (f:Nat->α) {i:Nat} (x:α) (h:i≠k):upd f k x i=f i:=if_neg h
def qfu (b:Nat) (vs:Nat->Vl) (k:Nat):Prop:=k=b\/∃i,i<8/\(vs i).ownBlock=some k
def q6q (h:k<8):k=0\/k=1\/k=2\/k=3\/k=4\/k=5\/k=6\/k=7:=oe
def qp8 {w w':Wl} {B n:Nat} {T:Tp} {v:Vl} {j:Lv} (h:w.ownsRow B T 6 v n j) (a:∀k,v.ownBlock=some k->w'.heap[k]?=w.heap[k]?):w'.ownsRow B T 6 v n j:=by
 refine⟨h.1,?_⟩;obtain b|⟨g,e,i,rfl,c,d,rest⟩:=h.2
 .exact .inl b
 exact .inr ⟨g,e,i,rfl,c,by rw[a g rfl];exact d,rest⟩
def jb6 (a:Nat->Vl) (b:k<8) (x:Vl):[a 0,a 1,a 2,a 3,a 4,a 5,a 6,a 7].set k x=[upd a k x 0,upd a k x 1,upd a k x 2,upd a k x 3,upd a k x 4,upd a k x 5,upd a k x 6,upd a k x 7]:=by
 obtain rfl|rfl|rfl|rfl|rfl|rfl|rfl|rfl:=q6q b<;>rfl
structure qbp (m:Nat->List Ver) (l:List Hd):Prop where
 perm:∀k,k<8->(qd3 l k).Perm (m k)
 keys:∀h∈l,inB h.key 0 7=true
variable {m:Nat->List Ver}
def qbp.mem (h:qbp m l) (a:k<8) (v:Ver):v∈m k↔(⟨k,v⟩:Hd)∈l:=by rw[<-q4c,(h.perm k a).mem_iff]
def qbp.len (h:qbp m l) (a:k<8):(m k).length<=l.length:=by
 rw[<-(h.perm k a).length_eq];unfold qd3;rw[jdh];exact jdo _ _
def qbp.sites (h:qbp m l) (a:∀x∈l,qau x.v=true) (b:k<8):∀v∈m k,0<=v.site/\v.site<=3:=λv c=>qk5 (a _ ((h.mem b v).1 c))
def qbp.count (h:qbp m l):(m 0).length+(m 1).length+(m 2).length+(m 3).length+(m 4).length+(m 5).length+(m 6).length+(m 7).length=l.length:=by
 have:=qnc l h.keys;rw[(h.perm 0 oe).length_eq,(h.perm 1 oe).length_eq,(h.perm 2 oe).length_eq,(h.perm 3 oe).length_eq,(h.perm 4 oe).length_eq,(h.perm 5 oe).length_eq,(h.perm 6 oe).length_eq,(h.perm 7 oe).length_eq]at this;exact this
def qbp.put (h:qbp m l) (c:k<8) (v:Ver) (p:Nat):qbp (upd m k (qj0 (m k) p v)) (l++[⟨k,v⟩]):=by
 refine⟨λi d=>?_,λx b=>?_⟩
 .rw[qna];by_cases e:i=k
  .subst e;rw[qde,qrg];exact((h.perm i d).append_right [v]).trans (q6o _ _ _)
  rw[qax _ _ e,qoe v oe,jdx];exact h.perm i d
 obtain a|a:=jcf.1 b
 .exact h.keys x a
 rw[jcj.1 a];exact jk.2 oL
def q7e (h:qbp m l) (d:k<8) (v:Ver):l.any (qb2 k v)=true↔∃y∈m k,qs8 y v:=by
 rw[List.any_eq_true];constructor
 .rintro ⟨⟨i,u⟩,f,e⟩;simp only[qb2,jct,decide_eq_true_eq]at e;obtain⟨⟨rfl,a,b⟩,c⟩:=e;exact⟨u,(h.mem d u).2 f,a,b,c⟩
 rintro ⟨y,g,a,b,c⟩;exact⟨⟨k,y⟩,(h.mem d y).1 g,by simp[qb2,a,b,c]⟩
def q4p {q:Nat} (c:qu8 L t p) (d:qu8 L t q):p=q:=by
 obtain h|h|h:=Nat.lt_trichotomy p q
 .have a:=c.2.2 p (jcd _) (by have:=d.1;omega);have b:=d.2.1 p h;rw[a]at b;cases b
 .exact h
 have a:=d.2.2 q (jcd _) (by have:=c.1;omega);have b:=c.2.1 q h;rw[a]at b;cases b
def qrz:∀{L:List Ver} (t:Ver),qbr L->∃p,qu8 L t p
 |[],_,_=>⟨0,jcd _,λj a=>oe,λj _ a=>by simp at a⟩
 |x::L,t,hs=>by
  unfold qbr at hs;rw[jdv]at hs;cases hx:qw x t
  .refine⟨0,jcw _,λj a=>oe,λj _ a=>?_⟩;cases j with
   |zero=>exact hx
   |succ j=>
    have c:j<L.length:=by simpa using a
    have e:jx (x::L) (j+1)=jx L j:=rfl;rw[e];cases hq:qw (jx L j) t
    .rfl
    have b:=hs.1 _ (qkm c)
    have:qw x t=true:=by
      rw[qar]at b hq ⊢;omega
    rw[hx]at this;cases this
  obtain⟨p,b,d,f⟩:=qrz t (show qbr L from hs.2);refine⟨p+1,by simpa using b,λj a=>?_,λj a g=>?_⟩
  .cases j with
   |zero=>exact hx
   |succ j=>exact d j oe
  cases j with
  |zero=>omega
  |succ j=>exact f j oe (by simpa using g)
def q01 {a:Oa} {j:Nat} (b:qu8 L t p) (w:Wl) (c:qs5 w a j L) (d:qbr L) (f:L.length<=1000):
 Ca 254 #[.slice a L.length j,.agg #[U t.wall,U t.count,U t.site,U t.seq,.string t.data,.bool t.gone],.func (.func 255) #[] #[]] w λe w'=>
  e=.returned (.tuple #[U p,.bool (qfa L t p)])/\Bw w w':=
 (qyn t w c d f).mono λe w' ⟨q,g,h,i⟩=>by
  obtain rfl:=q4p b h;exact⟨g,i⟩
end
section
structure qi4 (w:Wl) (b o:Nat) (D:Lv):Prop where
 cell:∀j v,D[j]?=some v->w.cell? (AD b (o+j))=some v
 free:∀j,j<D.length->w.frozen? (AD b (o+j))=false
 lt:b<w.heap.size
variable {o:Nat} {D:Lv}
def qi4.kept (h:qi4 w b o D) (e:w'.heap[b]?=w.heap[b]?) (a:w.heap.size<=w'.heap.size):qi4 w' b o D:=
 ⟨λj v c=>by rw[jch (w:=w) e];exact h.cell j v c,λj d=>by rw[jcp (w:=w) e];exact h.free j d,jci h.lt a⟩
def qi4.grown {r:Option Nat} (h:qi4 w b o D) (a:w.grownBy w' r) (c:some b≠r):qi4 w' b o D:=h.kept (a.block b h.lt c) a.size
def qi4.boxed (h:qi4 w b o D) (x:Obj):qi4 (w.alloc x) b o D:=h.kept (jdg _ _ _ h.lt) oi
def qi4.drew (h:qi4 w b o D):qi4 w.drew b o D:=h.kept rfl (jcd _)
def qi4.set (h:qi4 w b o D) (k:Nat) (u:Vl) (d:k<D.length):qi4 (w.setCell (AD b (o+k)) u) b o (D.set k u):=by
 refine⟨λj v a=>?_,λj c=>by rw[jcm];exact h.free j (by simpa using c),by simpa[World.setCell]using h.lt⟩;by_cases c:k=j
 .subst c;rw[List.getElem?_set_self d]at a;injection a with a;subst a;exact jc8 _ _ _ (h.cell k D[k] (jcg d))
 rw[List.getElem?_set_ne c]at a;rw[jco _ _ _ _ (by intro e;injection e with _ e _;omega)];exact h.cell j v a
def qfy (b E:Nat) (w w':Wl):Prop:=∀j,(j<E\/E+8<=j)->w'.cell? (AD b j)=w.cell? (AD b j)/\w'.frozen? (AD b j)=w.frozen? (AD b j)
variable {E:Nat}
def qfy.ofBlock (e:w'.heap[b]?=w.heap[b]?):qfy b E w w':=λ_ _=>⟨jch (w:=w) e,jcp (w:=w) e⟩
def qfy.trans {x y z:Wl} (h:qfy b E x y) (k:qfy b E y z):qfy b E x z:=λj a=>⟨(k j a).1.trans (h j a).1,(k j a).2.trans (h j a).2⟩
def qfy.set (b E k:Nat) (a:k<8) (w:Wl) (u:Vl):qfy b E w (w.setCell (AD b (E+k)) u):=λj c=>⟨jco _ _ _ _ (by intro e;injection e with _ e _;omega),jcm _ _ _ _⟩
structure qi0 (w:Wl) (b E:Nat) (D:Nat->Vl) (G:Nat->List Ver):Prop where
 box:qi4 w b E [D 0,D 1,D 2,D 3,D 4,D 5,D 6,D 7]
 own:∀k,k<8->w.ownsRow 0 218 6 (D k) (G k).length (ja (G k))
 sorted:∀k,k<8->qbr (G k)
 apart:∀k,k<8->(D k).ownBlock≠some b
 apart2:∀i j,i<8->j<8->i≠j->∀g,(D i).ownBlock=some g->(D j).ownBlock≠some g
variable {G:Nat->List Ver}
def qi0.cell {D:Nat->Vl} (h:qi0 w b E D G) (a:k<8):w.cell? (AD b (E+k))=some (D k):=
 h.box.cell k (D k) (by obtain rfl|rfl|rfl|rfl|rfl|rfl|rfl|rfl:=q6q a<;>rfl)
def qi0.free {D:Nat->Vl} (h:qi0 w b E D G) (a:k<8):w.frozen? (AD b (E+k))=false:=h.box.free k (by simpa using a)
def qi0.lt {D:Nat->Vl} (h:qi0 w b E D G):∀k,qfu b D k->k<w.heap.size:=λk a=>by
 obtain rfl|⟨i,d,e⟩:=a
 .exact h.box.lt
 exact((h.own i d).lt k e).2
def qi0.kept {D:Nat->Vl} (h:qi0 w b E D G) (a:∀k,qfu b D k->w'.heap[k]?=w.heap[k]?) (d:w.heap.size<=w'.heap.size):qi0 w' b E D G:=
 ⟨h.box.kept (a b (.inl rfl)) d,λk c=>qp8 (h.own k c) (λg e=>a g (.inr ⟨k,c,e⟩)),h.sorted,h.apart,h.apart2⟩
def qi0.later {D:Nat->Vl} (h:qi0 w b E D G) (a:Bw w w'):qi0 w' b E D G:=h.kept (λk c=>a.block k (h.lt k c)) a.size
def qi0.change {c:Wl} {D:Nat->Vl} (h:qi0 w b E D G) (l:k<8) {v':Vl} {L':List Ver} (d:qc (λj=>(D k).ownBlock=some j) w c)
 (x:c.ownsRow 0 218 6 v' L'.length (ja L')) (n:∀g,v'.ownBlock=some g->(D k).ownBlock=some g\/w.heap.size<=g) (y:qbr L'):
 qi0 (c.setCell (AD b (E+k)) v') b E (upd D k v') (upd G k L')/\qc (qfu b D) w (c.setCell (AD b (E+k)) v')/\(∀j,qfu b (upd D k v') j->qfu b D j\/w.heap.size<=j)/\qfy b E w (c.setCell (AD b (E+k)) v'):=by
 have z:=h.box.lt;have r:=d.block b z (h.apart k l);have s:v'.ownBlock≠some b:=λe=>by
  obtain a|a:=n b e
  .exact h.apart k l a
  omega
 have A:=h.box.kept r d.size;have t:=qhs b (E+k) c v';refine⟨⟨?_,λi F=>?_,λi F=>?_,λi F=>?_,λi j F f p g e=>?_⟩,?_,λj f=>?_,?_⟩
 .rw[<-jb6 D l];exact A.set k v' (by simpa using l)
 .by_cases e:i=k
  .subst e;rw[qde,qde];exact x.kept t (.inr (λe=>s e))
  rw[qax _ _ e,qax _ _ e];refine(qp8 (h.own i F) (λg u=>d.block g ((h.own i F).lt g u).2 (h.apart2 i k F l e g u))).kept t (.inr (h.apart i F))
 .by_cases e:i=k
  .subst e;rw[qde];exact y
  rw[qax _ _ e];exact h.sorted i F
 .by_cases e:i=k
  .subst e;rw[qde];exact s
  rw[qax _ _ e];exact h.apart i F
 .by_cases m:i=k
  .subst m;rw[qde]at e;rw[qax _ _ (Ne.symm p)];obtain a|a:=n g e
   .exact h.apart2 i j F f p g a
   intro q;have:=((h.own j f).lt g q).2;omega
  rw[qax _ _ m]at e;by_cases v:j=k
  .subst v;rw[qde];intro q;obtain a|a:=n g q
   .exact h.apart2 i j F f p g e a
   have:=((h.own i F).lt g e).2;omega
  rw[qax _ _ v];exact h.apart2 i j F f p g e
 .have B:qc (qfu b D) w c:=⟨d.os,d.tape,d.output,d.size,λj f C=>d.block j f (λe=>C (.inr ⟨k,l,e⟩))⟩;exact B.trans (qc.setCell c (AD b (E+k)) v' (.inl rfl))
 .obtain rfl|⟨i,F,e⟩:=f
  .exact .inl (.inl rfl)
  by_cases m:i=k
  .subst m;rw[qde]at e;obtain a|a:=n j e
   .exact .inl (.inr ⟨i,F,a⟩)
   exact .inr a
  rw[qax _ _ m]at e;exact .inl (.inr ⟨i,F,e⟩)
 exact(qfy.ofBlock r).trans (qfy.set b E k l c v')
def qir (w:Wl) (b E:Nat) (F:Np) (l:List Hd):Prop:=∃D G,qi0 w b E D G/\qbp G l/\∀k,F k↔qfu b D k
def qbp.qlast {D:Nat->Vl} {l:List Hd} (h:qbp G l) (R:qi0 w b E D G) (c:qfk l) (a:k<8) (a0 a1 a2 a3:Int):zn k a0 a1 a2 a3 l=qdi a0 a1 a2 a3 (G k):=q4l c (R.sorted k a) (h.mem a)
end
section
open _root_.Go.Proofs.Tryz
def qf8 (w:Wl) (b A:Nat) (F:Np) (l':List Hd) (w':Wl):Prop:=∃F',qir w' b A F' l'/\(∀k,F' k->F k\/w.heap.size<=k)/\qc F w w'/\qfy b A w w'
def qir.kept (h:qir w b A F l) (c:∀k,F k->w'.heap[k]?=w.heap[k]?) (d:w.heap.size<=w'.heap.size):qir w' b A F l:=by
 obtain⟨e,f,R,H,a⟩:=h;exact⟨e,f,R.kept (λk g=>c k ((a k).2 g)) d,H,a⟩
def qir.lt (h:qir w b A F l):∀k,F k->k<w.heap.size:=by
 obtain⟨d,e,R,H,a⟩:=h;exact λk c=>R.lt k ((a k).1 c)
def qf8.same (h:qir w b A F l) (a:Bw w w'):qf8 w b A F l w':=
 ⟨F,h.kept (λk c=>a.block k (h.lt k c)) a.size,λ_ c=>.inl c,qc.ofBelow a,by
   obtain⟨d,e,R,H,f⟩:=h;exact qfy.ofBlock (a.block b R.box.lt)⟩
def qxr {i:Int} (h:inB i 0 7=false) (v:Ver) (w:Wl) (c:qir w b A F l):
 Ca 231 #[.pointer (some (AD b A)),U i,.agg #[U v.wall,U v.count,U v.site,U v.seq,.string v.data,.bool v.gone]] w λe w'=>e=.returned (jc (qb5 l i v))/\qf8 w b A F (qa4 l i v) w':=by
 have e:qb5 l i v=2:=by unfold qb5;rw[h];rfl
 have a:qa4 l i v=l:=by unfold qa4;rw[e];rfl
 rw[e,a];have H:=hd1 h;clear h e a;go_enter func231,ntmps231;go_wp2_with fail
 refine(qj4 H.out _).mono ?_;rintro e d ⟨rfl,rfl⟩;go_wp2_with fail
 go_ret;exact⟨rfl,qf8.same c (boxed (jcc _ _) _)⟩
def q7u {j:Int} (h:inB j 0 7=true) (v:Ver) (a:qau v=false) (w:Wl) (d:qir w b A F l):
 Ca 231 #[.pointer (some (AD b A)),U j,.agg #[U v.wall,U v.count,U v.site,U v.seq,.string v.data,.bool v.gone]] w λe w'=>e=.returned (jc (qb5 l j v))/\qf8 w b A F (qa4 l j v) w':=by
 have e:qb5 l j v=1:=by unfold qb5;rw[h,a];rfl
 have c:qa4 l j v=l:=by unfold qa4;rw[e];rfl
 rw[e,c];have H:=hd1 h;have f:=hd1 a;clear h a e c;go_enter func231,ntmps231;go_wp2_with fail
 refine(qj4 H.out _).mono ?_;rintro e g ⟨rfl,rfl⟩;go_wp2_with fail
 refine(qqf f.out _).mono ?_;rintro e g ⟨rfl,i⟩;go_wp2_with fail
 go_ret;exact⟨rfl,qf8.same d (qa (boxed (jcc _ _) _) i)⟩
def q77 {key:Int} (h:inB key 0 7=true) (v:Ver) (X:qau v=true) (w:Wl) (Y:qir w b A F l) (hl:l.length<=1000):
 Ca 231 #[.pointer (some (AD b A)),U key,.agg #[U v.wall,U v.count,U v.site,U v.seq,.string v.data,.bool v.gone]] w λe w'=>e=.returned (jc (qb5 l key v))/\qf8 w b A F (qa4 l key v) w':=by
 have hne:=qb.one;obtain⟨E,d,R,G,Z⟩:=id Y;have hk:=jk.1 h;obtain⟨k,rfl⟩:∃k:Nat,key=(k:Int):=⟨key.toNat,oe⟩;have f:k<8:=oe;have hkz:(k:Int)<8:=oe;obtain⟨p,z⟩:=qrz v (R.sorted k f);have s:=qrf (R.sorted k f) z;rw[<-q7e G f v]at s;obtain⟨a,cap,o,hV⟩:=qfo (R.own k f);have aa:=jcn (G.len f) hl;have m:=qd.new (w:=w) (T:=218) (qh v) rfl;have t:=boxed (jcc _ w) (.cells #[U v.wall,U v.count,U v.site,U v.seq,.string v.data,.bool v.gone] 218);change qd (w.alloc (.cells #[U v.wall,U v.count,U v.site,U v.seq,.string v.data,.bool v.gone] 218)) w.heap.size (qh v)at m;have H:=hd1 h;have I:=hd1 X;clear h X hk;go_enter func231,ntmps231;go_wp2_with fail
 refine(qj4 H.out _).mono ?_;rintro e J ⟨rfl,rfl⟩;go_wp2_with fail
 refine(qqf I.out _).mono ?_;rintro e J ⟨rfl,K⟩;replace m:=m.later K;replace t:=qa t K;clear K;have R1:=R.later t;have k0:J.cell? (AD b (A+k))=some (.slice a (d k).length cap):=by rw[<-o];exact R1.cell f
 have l0:=qb.cell k0;have x0:=qb.cell (m.c 0);have x1:=qb.cell (m.c 1);have x2:=qb.cell (m.c 2);have x3:=qb.cell (m.c 3);have x4:=qb.cell (m.c 4);have x5:=qb.cell (m.c 5);have B:Hid (∀x:qb J,Ca 254 #[.slice a (d k).length cap,.agg #[U v.wall,U v.count,U v.site,U v.seq,.string v.data,.bool v.gone],.func (.func 255) #[] #[]] x.val λe w'=>e=.returned (.tuple #[U p,.bool (qfa (d k) v p)])/\Below x.val.heap.size x.val w'):=
  λx=>q01 z x.val ((hV.later t).later x.below) (R.sorted k f) aa
 obtain⟨L,M⟩:∃L,qfa (d k) v p=L:=⟨_,rfl⟩;rw[M]at B s;have FB:=hd1 M;have C:=hd1 z;clear M z;cases L
 .have u:Hid (qb5 l k v=0):=by
   show qb5 l k v=0;unfold qb5
   have:l.any (qb2 k v)=false:=by
        cases hq:l.any (qb2 k v)
        .rfl
        have:=s.2 hq;cases this
   rw[H.out,I.out,this];rfl
  have N:Hid (qa4 l k v=l++[⟨k,v⟩]):=by show qa4 l k v=_;unfold qa4;rw[u.out];rfl
  clear s;go_wp2_with fail
  refine wrl ?_;repeat (go_big_quiet_step ((go_at_call 254;with_reducible exact qg (B.out _))))
  refine wpQuiet_nil ?_;rintro i ⟨⟨_,y⟩,rfl⟩;have hb5:=qa t y;have RX5:=m.later y;have q:=R1.later y;have k5:i.cell? (AD b (A+k))=some (.slice a (d k).length cap):=by rw[<-o];exact q.cell f
  obtain⟨y0,y1,y2,y3,y4,y5⟩:=RX5.c6;have ownA:(i.drew.alloc (.cells #[U v.wall,U v.count,U v.site,U v.seq,.string v.data,.bool v.gone] 218)).ownsRow 0 218 6 (.slice a (d k).length cap) (d k).length (ja (d k)):=by
   rw[<-o];exact World.ownsRow.alloc (show i.drew.ownsRow 0 218 6 (E k) (d k).length (ja (d k))from q.own k f) _
  have vbne:(Value.slice a (d k).length cap).ownBlock≠some i.heap.size:=by
   rw[<-o];intro e;have:=((q.own k f).lt _ e).2;omega
  have IN:=hd1 (qzr v i.heap.size _ ownA C.out.1 aa (heap_alloc_new i.drew _) vbne);have bfree:=q.free f;have hbl:=q.box.lt;have O:=q.apart k f;rw[o]at O;clear ownA vbne x0 x1 x2 x3 x4 x5 l0 k0 B;go_wp2_with fail
  go_region_law (
   refine je rfl 256 #[.slice a (d k).length cap,U p,.slice (PT i.heap.size) 1 1] o9 IN.out ?_;rintro e P ⟨g,Q,rfl,D⟩;refine⟨_,rfl,?_⟩;have S:=hd1 D;have B8:=((q.box.drew).boxed (.cells #[U v.wall,U v.count,U v.site,U v.seq,.string v.data,.bool v.gone] 218)).grown D.2.1 (λe=>O e.symm);have c8:P.cell? (AD b (A+k))=some (.slice a (d k).length cap):=by rw[jch (w:=i) ((D.2.1.block b ou (λe=>O e.symm)).trans (jdg i.drew _ b hbl)),k5]
   have f8:=B8.free k (by simpa using f);clear D)
  all_goals
   have TW:qc (λj=>(E k).ownBlock=some j) w P:=by
        rw[o];exact((qc.ofBelow hb5).trans (qc.ofBelow (boxed ((jcc _ i).drew) _))).trans (qc.grown S.out.2.1 (λj r=>r))
   have V:=S.out.1;rw[qg1 v C.out.1]at V
   have n:=R.change f (v':=.slice (PT g) ((d k).length+1) Q) (L':=qj0 (d k) p v) TW (by rw[qg1 v C.out.1];exact V) (λj r=>by
        have e:g=j:=by simpa[Value.ownBlock]using r
        subst e;obtain W|W:=S.out.2.2
        .left;rw[o];exact W
        right
        have:=hb5.size;simp at W;omega) (qzk (R.sorted k f) C.out FB.out)
   have FIN:Hid (qf8 w b A F (l++[⟨k,v⟩]) (P.setCell (AD b (A+k)) (.slice (PT g) ((d k).length+1) Q))):=
        ⟨qfu b (upd E k (.slice (PT g) ((d k).length+1) Q)),⟨_,_,n.1,G.put f v p,λ_=>jdl⟩,λj r=>(n.2.2.1 j r).imp_left (Z j).2,⟨n.2.1.os,n.2.1.tape,n.2.1.output,n.2.1.size,λj r hn=>n.2.1.block j r (λe=>hn ((Z j).2 e))⟩,n.2.2.2⟩
   clear n V TW;go_wp2_with fail
   go_ret;rw[u.out,N.out];exact⟨rfl,FIN.out⟩
 have u:Hid (qb5 l k v=9):=by
  show qb5 l k v=9;unfold qb5;rw[H.out,I.out,s.1 rfl];rfl
 have N:Hid (qa4 l k v=l):=by show qa4 l k v=_;unfold qa4;rw[u.out];rfl
 clear s;go_wp2_with fail
 refine wrl ?_;repeat (go_big_quiet_step ((go_at_call 254;with_reducible exact qg (B.out _))))
 refine wpQuiet_nil ?_;rintro i ⟨⟨_,y⟩,rfl⟩;go_wp2_with fail
 go_ret;rw[u.out,N.out];exact⟨rfl,qf8.same Y (qa t y)⟩
def q64 (d:Int) (v:Ver) (w:Wl) (a:qir w b A F l) (c:l.length<=1000):
 Ca 231 #[.pointer (some (AD b A)),U d,.agg #[U v.wall,U v.count,U v.site,U v.seq,.string v.data,.bool v.gone]] w λe w'=>e=.returned (jc (qb5 l d v))/\qf8 w b A F (qa4 l d v) w':=by
 cases h:inB d 0 7
 .exact qxr h v w a
 cases hv:qau v
 .exact q7u h v hv w a
 exact q77 h v hv w a c
def qc.more {F i:Np} {w a m:Wl} (h:qc F w a) (k:qc i a m) (f:∀j,i j->F j\/w.heap.size<=j):qc F w m:=
 ⟨k.os.trans h.os,k.tape.trans h.tape,k.output.trans h.output,jcn h.size k.size,λj b c=>(k.block j (jci b h.size) (λe=>by
   obtain d|d:=f j e
   .exact c d
   omega)).trans (h.block j b c)⟩
structure ApB (tb xb:Nat) (ts xs:Lv) (w:Wl):Prop where
 t:qd w tb ts
 x:qd w xb xs
def qpi:(prog.info? 122).map (λi=>(i.zero,i.size,i.bytes))=some (some (.agg ZA),9,88):=oh
end
section
def qab (S:qe) (lv:Vl) (A:Nat):Lv:=
 [U S.id,U S.a0,U S.a1,U S.a2,U S.a3,U S.lw,U S.lc,lv,.map (some A),
  U (S.oth 0),U (S.oth 1),U (S.oth 2),U (S.oth 3),U (S.oth 4),U (S.oth 5),U (S.oth 6),U (S.oth 7),
  U (S.oth 8),U (S.oth 9),U (S.oth 10),U (S.oth 11),U (S.oth 12),U (S.oth 13),U (S.oth 14),U (S.oth 15)]
def jn (b:Nat) (lv:Vl) (A:Nat) (F:Np) (k:Nat):Prop:=k=b\/lv.ownBlock=some k\/k=A\/F k
structure zf (w:Wl) (b:Nat) (lv:Vl) (A:Nat) (F:Nat->Prop) (S:qe) (log waits:List TxM):Prop where
 box:qd w b (qab S lv A)
 st:qir w b 25 F S.l
 rlog:w.ownsRow 0 122 9 lv log.length (zw log)
 map:qd5 w A waits
 nl:lv.ownBlock≠some b
 nm:A≠b
 lm:lv.ownBlock≠some A
 lf:∀k,lv.ownBlock=some k->¬F k
 mf:¬F A
 hold:∀m∈log++waits,qr w m.wa m.wc m.t.ws/\∀k,m.blk k->¬jn b lv A F k
def zf.lt {log waits:List TxM} (h:zf w b lv A F S log waits):∀k,jn b lv A F k->k<w.heap.size:=λk a=>by
 obtain rfl|a|rfl|a:=a
 .exact h.box.lt
 .exact(h.rlog.lt k a).2
 .exact h.map.lt
 exact h.st.lt k a
def zf.kept {log waits:List TxM} (h:zf w b lv A F S log waits) (a:∀k,(jn b lv A F k\/∃m∈log++waits,m.blk k)->w'.heap[k]?=w.heap[k]?) (d:w.heap.size<=w'.heap.size):zf w' b lv A F S log waits:=
 ⟨h.box.kept (a b (.inl (.inl rfl))) d,h.st.kept (λk e=>a k (.inl (.inr (.inr (.inr e))))) d,qf h.rlog (λk e=>a k (.inl (.inr (.inl e)))),h.map.kept (a A (.inl (.inr (.inr (.inl rfl))))),h.nl,h.nm,h.lm,h.lf,h.mf,
   λm c=>⟨(h.hold m c).1.kept (λk e=>a k (.inr ⟨m,c,e⟩)),(h.hold m c).2⟩⟩
def zf.later {log waits:List TxM} (h:zf w b lv A F S log waits) (c:Bw w w'):zf w' b lv A F S log waits:=
 h.kept (λk a=>c.block k (by
  obtain a|⟨m,d,e⟩:=a
  .exact h.lt k a
  exact(h.hold m d).1.blk_lt k e)) c.size
def zf.hold' {c:Vl} {i:Np} {m:TxM} (a:qr w m.wa m.wc m.t.ws/\∀k,m.blk k->¬jn b lv A F k) (f:qc (jn b lv A F) w w') (g:∀k,jn b c A i k->jn b lv A F k\/w.heap.size<=k):
 qr w' m.wa m.wc m.t.ws/\∀k,m.blk k->¬jn b c A i k:=
 ⟨a.1.kept (λk e=>f.block k (a.1.blk_lt k e) (a.2 k e)),λk e h=>by
   obtain d|d:=g k h
   .exact a.2 k e d
   have:=a.1.blk_lt k e;omega⟩
def zf.store {log waits:List TxM} {n:List Hd} (h:zf w b lv A F S log waits) (s:qf8 w b 25 F n w'):
 ∃y,zf w' b lv A y {S with l:=n} log waits/\(∀k,jn b lv A y k->jn b lv A F k\/w.heap.size<=k)/\qc (jn b lv A F) w w':=by
 obtain⟨y,t,i,d,o⟩:=s;have p:∀k,jn b lv A y k->jn b lv A F k\/w.heap.size<=k:=λk a=>by
  obtain a|a|a|a:=a
  .exact .inl (.inl a)
  .exact .inl (.inr (.inl a))
  .exact .inl (.inr (.inr (.inl a)))
  obtain c|c:=i k a
  .exact .inl (.inr (.inr (.inr c)))
  exact .inr c
 have q:qc (jn b lv A F) w w':=⟨d.os,d.tape,d.output,d.size,λk a g=>d.block k a (λe=>g (.inr (.inr (.inr e))))⟩;have u:=λk e=>d.block k (h.rlog.lt k e).2 (h.lf k e);refine⟨y,⟨⟨λj v r=>?_,λj f=>?_,jci h.box.lt d.size⟩,t,qf h.rlog u,h.map.kept (d.block A h.map.lt h.mf),h.nl,h.nm,h.lm,λk e g=>?_,λg=>?_,λm x=>zf.hold' (h.hold m x) q p⟩,p,q⟩
 .have f:j<25:=by
   have:=(jck.1 r).1;simpa[qab]using this
  rw[(o j (.inl f)).1];exact h.box.cell j v r
 .have f:j<25:=by simpa[qab]using f
  rw[(o j (.inl f)).2];exact h.box.free j (by simpa[qab]using f)
 .obtain c|c:=i k g
  .exact h.lf k e c
  have:=(h.rlog.lt k e).2;omega
 obtain c|c:=i A g
 .exact h.mf c
 have:=h.map.lt;omega
def qi4.other {o:Nat} {a:Lv} (h:qi4 w b o a) (k:Nat) (u:Vl) (f:k<o):qi4 (w.setCell (AD b k) u) b o a:=
 ⟨λj v c=>by rw[jco _ _ _ _ (by intro e;injection e with _ e _;omega)];exact h.cell j v c,λj d=>by rw[jcm];exact h.free j d,by simpa[World.setCell]using h.lt⟩
def qir.other {l:List Hd} (h:qir w b 25 F l) (k:Nat) (u:Vl) (a:k<25):qir (w.setCell (AD b k) u) b 25 F l:=by
 obtain⟨c,d,R,f,j⟩:=h;exact⟨c,d,⟨R.box.other k u a,λi m=>qp8 (R.own i m) (λg e=>jce _ _ _ _ (λ(x:g=b)=>R.apart i m (by rw[<-x];exact e))),R.sorted,R.apart,R.apart2⟩,f,j⟩
def zf.cell {S':qe} {log waits:List TxM} (h:zf w b lv A F S log waits) (k:Nat) (u:Vl) (c:k<25) (d:(qab S lv A).set k u=qab S' lv A) (f:S'.l=S.l):zf (w.setCell (AD b k) u) b lv A F S' log waits:=
 ⟨by rw[<-d];exact h.box.set k u (by simpa[qab]using c),by rw[f];exact h.st.other k u c,qf h.rlog (λg e=>jce _ _ _ _ (λ(x:g=b)=>h.nl (by rw[<-x];exact e))),h.map.kept (jce _ _ _ _ h.nm),h.nl,h.nm,h.lm,h.lf,h.mf,
   λm a=>⟨(h.hold m a).1.kept (λg e=>jce _ _ _ _ (λx=>(h.hold m a).2 g e (.inl x))),(h.hold m a).2⟩⟩
def zf.seq {log waits:List TxM} (h:zf w b lv A F S log waits) {s:Int} (x:Int) (c:0<=s) (d:s<=3):
 zf (w.setCell (AD b (1+s.toNat)) (U x)) b lv A F {S with a0:=qch s x S.a0,a1:=qcl s x S.a1,a2:=qck s x S.a2,a3:=qcj s x S.a3} log waits:=by
 refine h.cell (1+s.toNat) (U x) oe ?_ rfl;have a:s=0\/s=1\/s=2\/s=3:=oe;obtain rfl|rfl|rfl|rfl:=a<;>rfl
def zf.last {log waits:List TxM} (h:zf w b lv A F S log waits) (x y:Int):
 zf ((w.setCell (AD b 5) (U x)).setCell (AD b 6) (U y)) b lv A F {S with lw:=x,lc:=y} log waits:=
 (h.cell (S':={S with lw:=x}) 5 (U x) oe rfl rfl).cell 6 (U y) oe rfl rfl
def zf.append {f:Wl} {log waits:List TxM} (h:zf w b lv A F S log waits) (m:TxM) (u:qr w m.wa m.wc m.t.ws/\∀k,m.blk k->¬jn b lv A F k) {g d:Nat} (j:w.grownBy f lv.ownBlock)
 (v:f.ownsRow 0 122 9 (.slice (PT g) (log.length+1) d) (log.length+1) (zw log++txC m)) (l:lv.ownBlock=some g\/w.heap.size<=g):
 zf (f.setCell (AD b 7) (.slice (PT g) (log.length+1) d)) b (.slice (PT g) (log.length+1) d) A F S (log++[m]) waits/\(∀k,jn b (.slice (PT g) (log.length+1) d) A F k->jn b lv A F k\/w.heap.size<=k)/\
  qc (jn b lv A F) w (f.setCell (AD b 7) (.slice (PT g) (log.length+1) d)):=by
 have gk:∀k,(Value.slice (PT g) (log.length+1) d).ownBlock=some k->g=k:=λk a=>by simpa[Value.ownBlock]using a
 have n:∀k,jn b (.slice (PT g) (log.length+1) d) A F k->jn b lv A F k\/w.heap.size<=k:=λk a=>by
  obtain a|a|a:=a
  .exact .inl (.inl a)
  .obtain rfl:=gk k a;obtain c|c:=l
   .exact .inl (.inr (.inl c))
   exact .inr c
  exact .inl (.inr (.inr a))
 have o:∀k,k<w.heap.size->lv.ownBlock≠some k->g≠k:=λk a c e=>by
  obtain i|i:=l
  .exact c (by rw[<-e];exact i)
  omega
 have p:qc (jn b lv A F) w (f.setCell (AD b 7) (.slice (PT g) (log.length+1) d)):=(qc.grown j (λk a=>.inr (.inl a))).trans (qc.setCell f (AD b 7) _ (.inl rfl));have q:=o b h.box.lt h.nl;have y:=h.st.kept (λk e=>j.block k (h.st.lt k e) (λx=>h.lf k x.symm e)) j.size;refine⟨⟨(h.box.grown j (λe=>h.nl e.symm)).set 7 _ (by simp[qab]),y.other 7 _ oe,?_,(h.map.kept (j.block A h.map.lt (λx=>h.lm x.symm))).kept (jce _ _ _ _ h.nm),λe=>q (gk b e),h.nm,λe=>o A h.map.lt h.lm (gk A e),λk e r=>?_,h.mf,λs z=>zf.hold' (lv:=lv) (F:=F) (w:=w) ?_ p n⟩,n,p⟩
 .have:=v.kept (row:=some b) (qhs b 7 f (.slice (PT g) (log.length+1) d)) (.inr (λe=>q (gk b e)));rw[qkf,jcl];exact this
 .obtain rfl:=gk k e;obtain c|c:=l
  .exact h.lf _ c r
  have:=h.st.lt _ r;omega
 obtain c|c:=jcf.1 z
 .obtain i|i:=jcf.1 c
  .exact h.hold s (jcf.2 (.inl i))
  obtain rfl:=jcj.1 i;exact u
 exact h.hold s (jcf.2 (.inr c))
def zf.turn {log waits d:List TxM} (h:zf w b lv A F S log waits) (f:w.grownBy w' (some A)) (l:qd5 w' A d) (n:∀m∈d,m∈waits\/(qr w m.wa m.wc m.t.ws/\∀k,m.blk k->¬jn b lv A F k)):zf w' b lv A F S log d:=
 have c:∀k,k≠A->k<w.heap.size->w'.heap[k]?=w.heap[k]?:=λk o p=>f.block k p (λe=>o (by injection e));have g:∀m:TxM,(qr w m.wa m.wc m.t.ws/\∀k,m.blk k->¬jn b lv A F k)->(qr w' m.wa m.wc m.t.ws/\∀k,m.blk k->¬jn b lv A F k):=λm a=>⟨a.1.kept (λk e=>c k (λx=>a.2 k e (.inr (.inr (.inl x)))) (a.1.blk_lt k e)),a.2⟩
 ⟨h.box.kept (c b (Ne.symm h.nm) h.box.lt) f.size,h.st.kept (λk e=>c k (λx=>h.mf (by rw[<-x];exact e)) (h.st.lt k e)) f.size,qf h.rlog (λk e=>c k (λx=>h.lm (by rw[<-x];exact e)) (h.rlog.lt k e).2),l,h.nl,h.nm,h.lm,h.lf,h.mf,
   λm a=>by
    obtain i|i:=jcf.1 a
    .exact g m (h.hold m (jcf.2 (.inl i)))
    obtain j|j:=n m i
    .exact g m (h.hold m (jcf.2 (.inr j)))
    exact g m j⟩
def okT (t:TxP):Bool:=jt t.site t.seq t.wall t.count t.d0 t.d1 t.d2 t.d3 t.ws
variable {t:TxP}
def qcg (h:okT t=true):(0<=t.site/\t.site<=3)/\(1<=t.seq/\t.seq<=1099511627776)/\1<=t.ws.length/\t.ws.length<=5:=by
 simp only[okT,jt,jct,jk,qad]at h;refine⟨h.1.1.1.1.1,h.1.1.1.1.2,?_⟩;have:=h.2.2;omega
def qag (x:Int):Prop:=0<=x/\x<=1099511627776
structure j3 (S:qe):Prop where
 id0:0<=S.id
 id3:S.id<=3
 nums:qgu S.waits
 wt:∀x∈S.waits,okT x=true/\x.site≠S.id
 a0:qag S.a0
 a1:qag S.a1
 a2:qag S.a2
 a3:qag S.a3
 own:qp S.id S.a0 S.a1 S.a2 S.a3<=S.log.length
 log:S.log.length<=200
 lsite:∀x∈S.log,(0<=x.site/\x.site<=3)/\1<=x.ws.length/\x.ws.length<=5
 len:S.l.length<=5*S.log.length
 apart:qfk S.l
 ok:∀h∈S.l,qau h.v=true
def j3.dep (h:j3 S) (s:Int):qag (qp s S.a0 S.a1 S.a2 S.a3):=by
 unfold qp;split
 .exact h.a0
 split
 .exact h.a1
 split
 .exact h.a2
 exact h.a3
def q8v {l:List Hd} {d:Int} {v:Ver} (h:∀x∈l,qau x.v=true):∀x∈qa4 l d v,qau x.v=true:=by
 unfold qa4;split
 .rename_i e;intro x b;obtain a|a:=jcf.1 b
  .exact h x a
  obtain rfl:=jcj.1 a;unfold qb5 at e;split at e
  .split at e
   .rename_i c;exact c
   cases e
  cases e
 exact h
def qq4 (t:TxP):∀(ws:List Wr) (l:List Hd),qfk l->(∀x∈l,qau x.v=true)->qfk (qbz t ws l)/\∀x∈qbz t ws l,qau x.v=true
 |[],_,h1,h2=>⟨h1,h2⟩
 |x::ws,l,h1,h2=>qq4 t ws (qa4 l x.key (qne t x)) (q16 h1) (q8v h2)
def q7p (t:TxP) (s:Int) (b:0<=s) (c:s<=3):qp s (vr S t).a0 (vr S t).a1 (vr S t).a2 (vr S t).a3=if s=t.site then t.seq else qp s S.a0 S.a1 S.a2 S.a3:=by
 have a:s=0\/s=1\/s=2\/s=3:=oe;obtain rfl|rfl|rfl|rfl:=a<;>simp[vr,qp,qch,qcl,qck,qcj,eq_comm]
def j3.applied (h:j3 S) (d:0<=t.site/\t.site<=3) (a:qag t.seq) (f:1<=t.ws.length/\t.ws.length<=5) (g:t.site=S.id->t.seq<=S.log.length+1) (j:S.log.length<200):j3 (vr S t):=by
 have c:=qq4 t t.ws S.l h.apart h.ok;refine⟨h.id0,h.id3,h.nums,h.wt,?_,?_,?_,?_,?_,?_,?_,?_,c.1,c.2⟩
 .show qag (qch _ _ _);unfold qch;split;exact a;exact h.a0
 .show qag (qcl _ _ _);unfold qcl;split;exact a;exact h.a1
 .show qag (qck _ _ _);unfold qck;split;exact a;exact h.a2
 .show qag (qcj _ _ _);unfold qcj;split;exact a;exact h.a3
 .show qp S.id _ _ _ _<=_;rw[q7p t S.id h.id0 h.id3];have:=h.own;split
  .rename_i e;have:=g e.symm;simp[vr];omega
  simp[vr];omega
 .simp[vr];omega
 .intro x i;rcases jcf.1 (show x∈S.log++[t]from i)with b|b
  .exact h.lsite x b
  obtain rfl:=jcj.1 b;exact⟨d,f⟩
 have:=qf1 t t.ws S.l;have:=h.len;simp[vr];omega
def j3.drop (h:j3 S) (t:TxP):j3 {S with waits:=qdv S.waits t}:=
 ⟨h.id0,h.id3,h.nums.drop t,λx a=>h.wt x (qrh.1 a).1,h.a0,h.a1,h.a2,h.a3,h.own,h.log,h.lsite,h.len,h.apart,h.ok⟩
def j3.wait (h:j3 S) (b:okT t=true) (c:t.site≠S.id) (d:∀x∈S.waits,vv x t=false):j3 {S with waits:=S.waits++[t]}:=
 ⟨h.id0,h.id3,h.nums.snoc d,λx e=>by
   obtain a|a:=jcf.1 e
   .exact h.wt x a
   obtain rfl:=jcj.1 a;exact⟨b,c⟩,h.a0,h.a1,h.a2,h.a3,h.own,h.log,h.lsite,h.len,h.apart,h.ok⟩
def j3.gone (h:j3 S) {x:TxP} (a:x∈S.waits) (b:S.log.length<200):j3 (qj5 S x):=by
 obtain⟨c,d⟩:=h.wt x a;obtain⟨p1,p2,p3⟩:=qcg c;exact(h.drop x).applied p1 ⟨oe,p2.2⟩ p3 (λe=>absurd e d) b
def qfm.inv {a:qe} (h:qfm S a):j3 S->j3 a:=by
 induction h with
 |full _=>exact id
 |none _=>exact id
 |step h1 h2 _ ih=>exact λk=>ih (k.gone (qj8 h2).1 h1)
def j3.swept (h:j3 S) (b d e i:Int):j3 {S with l:=qcr b d e i S.l}:=
 ⟨h.id0,h.id3,h.nums,h.wt,h.a0,h.a1,h.a2,h.a3,h.own,h.log,h.lsite,jcn qqw h.len,qv3 h.apart,λx a=>h.ok x (jdq.1 a).1⟩
def j3.knows (h:j3 S) (f:Nat->Int):j3 {S with oth:=f}:=
 ⟨h.id0,h.id3,h.nums,h.wt,h.a0,h.a1,h.a2,h.a3,h.own,h.log,h.lsite,h.len,h.apart,h.ok⟩
def qg8 (id:Int):qe:=⟨id,0,0,0,0,0,0,[],[],[],λ_=>0⟩
def qza (s:Int):qp s 0 0 0 0=0:=by
 unfold qp;split
 .rfl
 split
 .rfl
 split<;>rfl
def qik:qag 0:=⟨oe,oe⟩
def j3.new {id:Int} (a:0<=id) (b:id<=3):j3 (qg8 id):=
 ⟨a,b,by simp[qg8,qgu],by simp[qg8],qik,qik,qik,qik,by show qp id 0 0 0 0<=_;rw[qza];simp,by simp[qg8],by simp[qg8],by simp[qg8],λx c=>by simp[qg8]at c,by simp[qg8]⟩
end
section
def q0k:∀(l:List TxM) (i:Nat) (m:TxM) (r:Nat) (u:Vl),l[i]?=some m->(txC m)[r]?=some u->(zw l)[i*9+r]?=some u
 |[],_,_,_,_,h,_=>by simp at h
 |x::l,0,m,r,u,h,hu=>by
  obtain rfl:x=m:=oM;have a:=(jck.1 hu).1;show (txC x++zw l)[0*9+r]?=some u;rw[Nat.zero_mul,mF,jc3 a];exact hu
 |x::l,i+1,m,r,u,h,hu=>by
  have b:=q0k l i m r u oM hu;show (txC x++zw l)[(i+1)*9+r]?=some u;have e:(i+1)*9+r=(txC x).length+(i*9+r):=by simp[txC];omega
  rw[e,jc0 oe,Nat.add_sub_cancel_left];exact b
structure qdy (w:Wl) (a:Oa) (cap:Nat) (l:List TxM):Prop where
 len:l.length<=cap
 cap:cap<=9223372036854775807
 held:l=[]\/∃b off,a=some (AD b off)/\∀i m r u,l[i]?=some m->(txC m)[r]?=some u->w.cell? (AD b (off+(i*9+r)))=some u
variable {l:List TxM}
def yx {B:Nat} {T:Tp} {v:Vl} (h:w.ownsRow B T 9 v l.length (zw l)):∃a q,v=.slice a l.length q/\qdy w a q l:=by
 obtain⟨rfl,b⟩|⟨g,q,s,rfl,j,k,d,e,n,o⟩:=h.2
 .exact⟨none,0,by rw[b],⟨oe,oe,.inl (jc2 b)⟩⟩
 refine⟨_,q,rfl,⟨d,by simp only[maxLen]at e;omega,.inr ⟨g,0,rfl,λi m r u t f=>?_⟩⟩⟩;have c:=h.cells (g:=g) rfl _ _ (q0k l i m r u t f);rw[qal]at c;rw[mF];exact c
def qcs (h0 h1 h2 h3:Int) (m:TxM):Bool:=decide (qp m.t.site h0 h1 h2 h3<m.t.seq)
end
def qcp (lw lc now:Int):Int×Int×Int:=
 if (qi lw&&qi lc)=false then (0,0,2)else if qi now=false then (0,0,2)else if lw<now then (now,0,0)else if 1099511627776<lc+1 then (0,0,12)else (lw,lc+1,0)
def ji (S:qe) (n:Nat) (now d0 d1 d2 d3:Int) (ws:List Wr):Int:=
 if qad ws=false then 1 else if jb d0 d1 d2 d3=false then 10 else if qa8 S.a0 S.a1 S.a2 S.a3 d0 d1 d2 d3=false then 10 else if 200<=n then 12 else (qcp S.lw S.lc now).2.2
def zv (S:qe) (now d0 d1 d2 d3:Int) (ws:List Wr):TxP:=
 ⟨S.id,qp S.id S.a0 S.a1 S.a2 S.a3+1,(qcp S.lw S.lc now).1,(qcp S.lw S.lc now).2.1,qch S.id (qp S.id S.a0 S.a1 S.a2 S.a3) d0,qcl S.id (qp S.id S.a0 S.a1 S.a2 S.a3) d1,qck S.id (qp S.id S.a0 S.a1 S.a2 S.a3) d2,qcj S.id (qp S.id S.a0 S.a1 S.a2 S.a3) d3,ws⟩
def txZ:Lv:=ZL
abbrev js (w:Wl) (b:Nat) (x0 x1 x2 x3 x4 x5 x6 x7:Int) (v:Vl):Wl:=
 ((((((((w.setCell (AD b 0) (U x0)).setCell (AD b 1) (U x1)).setCell (AD b 2) (U x2)).setCell (AD b 3) (U x3)).setCell (AD b 4) (U x4)).setCell (AD b 5) (U x5)).setCell (AD b 6) (U x6)).setCell (AD b 7) (U x7)).setCell (AD b 8) v
def qd9 (h:Bw w W) (a:w.heap.size<=b) (i j k m c d e f:Int) (v:Vl):Bw w (js W b i j k m c d e f v):=
 ((((((((h.setCell a _).setCell a _).setCell a _).setCell a _).setCell a _).setCell a _).setCell a _).setCell a _).setCell a _
def yz {i:Lv} (h:qd W b i) (f:i.length=9) (j k m o a c d e:Int) (v:Vl):qd (js W b j k m o a c d e v) b [U j,U k,U m,U o,U a,U c,U d,U e,v]:=by
 match i,f with
 |[_,_,_,_,_,_,_,_,_],_=>exact((((((((h.set 0 _ oi).set 1 _ oi).set 2 _ oi).set 3 _ oi).set 4 _ oi).set 5 _ oi).set 6 _ oi).set 7 _ oi).set 8 _ oi
def qwc (h:qo w b a0 a1 a2 a3) (c:0<=s) (d:s<=3):w.frozen? (AD b s.toNat)=false:=by
 have a:s=0\/s=1\/s=2\/s=3:=oe;obtain rfl|rfl|rfl|rfl:=a
 .exact h.f0
 .exact h.f1
 .exact h.f2
 exact h.f3
def q0b (h:qo w b a0 a1 a2 a3) (c:0<=s) (d:s<=3) (x:Int):qo (w.setCell (AD b s.toNat) (U x)) b (qch s x a0) (qcl s x a1) (qck s x a2) (qcj s x a3):=by
 have a:s=0\/s=1\/s=2\/s=3:=oe;obtain rfl|rfl|rfl|rfl:=a
 .exact h.set0 x
 .exact h.set1 x
 .exact h.set2 x
 exact h.set3 x
section
open _root_.Go.Proofs.Tryz
def qip {S:qe} {now a b c d:Int} {ws:List Wr} (h:ji S n now a b c d ws=0):qad ws=true/\jb a b c d=true/\qa8 S.a0 S.a1 S.a2 S.a3 a b c d=true/\¬200<=n/\(qcp S.lw S.lc now).2.2=0:=by
 unfold ji at h;cases h1:qad ws
 .rw[if_pos h1]at h;cases h
 rw[if_neg (by rw[h1];decide)]at h;cases h2:jb a b c d
 .rw[if_pos h2]at h;cases h
 rw[if_neg (by rw[h2];decide)]at h;cases h3:qa8 S.a0 S.a1 S.a2 S.a3 a b c d
 .rw[if_pos h3]at h;cases h
 rw[if_neg (by rw[h3];decide)]at h;by_cases e:200<=n
 .rw[if_pos e]at h;cases h
 rw[if_neg e]at h;exact⟨rfl,rfl,rfl,e,h⟩
def qsc {w:Wl} {b c:Nat} {l:List Wr} (h:qbo w b c l):∀j u,(qcf l)[j]?=some u->w.cell? (((AD b c):Addr).add j)=some u:=λj u a=>by
 have i:((AD b c):Addr).add j=(AD b (c+j)):=by unfold Addr.add;split<;>simp_all
 have m:j<l.length*3:=by
  have:=(jck.1 a).1;rw[qdt]at this;exact this
 have o:j/3<l.length:=oe;obtain⟨a0,a1,a2⟩:=qr5 l (j/3) o;obtain⟨d,f,g⟩:=h (j/3) o;rw[i];have k:j=j/3*3\/j=j/3*3+1\/j=j/3*3+2:=oe;obtain e|e|e:=k
 .rw[<-e]at a0 d;rw[a0]at a;injection a with a;rw[<-a];exact d
 .rw[<-e]at a1;rw[nz,<-e]at f;rw[a1]at a;injection a with a;rw[<-a];exact f
 rw[show j/3*3+1+1=j/3*3+2 from rfl,<-e]at a2;rw[show c+j/3*3+1+1=c+(j/3*3+2) by omega,<-e]at g;rw[a2]at a;injection a with a;rw[<-a];exact g
def qji (l:List Wr):∀u∈qcf l,u.oneCell'=true:=by
 intro u b;obtain⟨x,_,a⟩:=List.mem_flatMap.1 b;simp[wrC]at a;obtain rfl|rfl|rfl:=a<;>rfl
def qmn:(prog.info? 127).map (λi=>(i.zero,i.size,i.bytes))=some (some (.agg #[U 0,.string ⟨#[]⟩,.bool false]),3,32):=oh
def qjq (w:Wl) (T:Tp) (a:w.heap.size=n) (B:Nat) (b:B<=n):(w.alloc (.cells #[] T)).ownsRow B T 3 (.slice (PT n) 0 0) 0 []:=by
 subst a;exact⟨rfl,.inr ⟨w.heap.size,0,#[],rfl,b,heap_alloc_new w (.cells #[] T),jcd _,oj,rfl,rfl⟩⟩
def qox (a0 a1 a2 a3 a b c d:Int) (w:Wl):
 Ca 157 #[.agg #[U a0,U a1,U a2,U a3],.agg #[U a,U b,U c,U d]] w (Rn (.bool (qa8 a0 a1 a2 a3 a b c d)) w):=by
 by_cases f:a0<a;have e:qa8 a0 a1 a2 a3 a b c d=false:=by simp[qa8];omega
 rw[e];go_enter func157,ntmps157;go_wp2;refine wp_loop_rounds 5 ?_;rw[rounds_succ];go_wp2;go_quiet (fail)
 rotate_left;by_cases g:a1<b;have e:qa8 a0 a1 a2 a3 a b c d=false:=by simp[qa8];omega
 rw[e];go_enter func157,ntmps157;go_wp2;refine wp_loop_rounds 5 ?_;rw[rounds_succ];go_wp2;go_quiet (fail)
 go_wp2;rw[rounds_succ];go_wp2;go_quiet (fail)
 rotate_left;by_cases h:a2<c;have e:qa8 a0 a1 a2 a3 a b c d=false:=by simp[qa8];omega
 rw[e];go_enter func157,ntmps157;go_wp2;refine wp_loop_rounds 5 ?_;rw[rounds_succ];go_wp2;go_quiet (fail)
 go_wp2;rw[rounds_succ];go_wp2;go_quiet (fail)
 go_wp2;rw[rounds_succ];go_wp2;go_quiet (fail)
 rotate_left;by_cases i:a3<d;have e:qa8 a0 a1 a2 a3 a b c d=false:=by simp[qa8];omega
 rw[e];go_enter func157,ntmps157;go_wp2;refine wp_loop_rounds 5 ?_;rw[rounds_succ];go_wp2;go_quiet (fail)
 go_wp2;rw[rounds_succ];go_wp2;go_quiet (fail)
 go_wp2;rw[rounds_succ];go_wp2;go_quiet (fail)
 go_wp2;rw[rounds_succ];go_wp2;go_quiet (fail)
 rotate_left;have e:qa8 a0 a1 a2 a3 a b c d=true:=by simp[qa8];omega
 rw[e];go_enter func157,ntmps157;go_wp2;refine wp_loop_rounds 5 ?_;rw[rounds_succ];go_wp2;go_quiet (fail)
 go_wp2;rw[rounds_succ];go_wp2;go_quiet (fail)
 go_wp2;rw[rounds_succ];go_wp2;go_quiet (fail)
 go_wp2;rw[rounds_succ];go_wp2;go_quiet (fail)
 go_wp2;rw[rounds_succ];all_goals
  go_wp2;go_ret;exact⟨rfl,by repeat (first|exact jcc _ _|apply jy|apply boxed)⟩
def qh3 {a0 a1 a2 a3 a b c d:Int} {v:Bool} (h:qa8 a0 a1 a2 a3 a b c d=v) (w:Wl):
 Ca 157 #[.agg #[U a0,U a1,U a2,U a3],.agg #[U a,U b,U c,U d]] w (Rn (.bool v) w):=by
 subst h;exact qox _ _ _ _ _ _ _ _ w
end
section
open Tryz Go.Maps
def q9d (w:Wl) (ws:List Wr) (e:Ending) (w':Wl):Prop:=∃g c,e=.returned (.slice (PT g) ws.length c)/\qr w' (PT g) c ws/\w.heap.size<=g/\Bw w w'
def jbz (p:Addr) (n c:Nat) (w:Wl):(binOp .eql 120 (.slice (some p) n c) (.slice none 0 0)).run prog w=.ok (.bool false) w:=oh
variable {ws:List Wr}
def q2l {a:Oa} {A:Nat} (w:Wl) (t:qr w a A ws) (f:1<=ws.length) (y:ws.length<=1000):
 Ca 233 #[.slice a ws.length A] w (q9d w ws):=by
 obtain⟨b,d,rfl,z⟩:∃b d,a=some (AD b d)/\qbo w b d ws:=by
  obtain e|e:=t.held
  .rw[e]at f;simp at f
  exact e
 have O:=t.len;obtain⟨B,X,C,E,F⟩:=info_parts qmn;have G:=qjq w 127 rfl w.heap.size (jcd _);have i:=boxed (jcc _ w) (.cells #[] 127);have H:=hd1 (qsc (z.later i));have k:=hd2 f y;have P:=jbz;go_enter func233,ntmps233;go_wp2_with (at_builtin;refine wpList_append_lies _ rfl (.tmp 5) (.tmp 6) 120 rfl w.heap.size 127 B (.agg #[U 0,.string ⟨#[]⟩,.bool false]) 3 32 underlying120 X C E F rfl oj (.slice (PT w.heap.size) 0 0) 0 [] rfl G (AD b d) ws.length A (qcf ws) rfl (qdt ws) H.out (qji ws) (by have:=k.out;omega) (by have:=k.out;simp only[maxLen];omega) (by have:=k.out;omega) oi _ rfl ?_;intro g I R x J K T)
 go_ret;rw[mF,jda]at x;obtain⟨a2,V,p,L⟩:=qbg x;injection p with p _ e3;subst p e3;have M:w.heap.size<=g:=by
  obtain h|h:=K
  .simp[Value.ownBlock]at h;omega
  simp at h;omega
 refine⟨g,I,rfl,L,M,?_⟩;exact i.grown J i.size (λj N=>by simp[Value.ownBlock]at N;omega)
def qco {k:Nat} (h:k≠b) (i j t x d e f g:Int) (v:Vl):(js W b i j t x d e f g v).heap[k]?=W.heap[k]?:=
 (jce _ _ _ _ h).trans ((jce _ _ _ _ h).trans ((jce _ _ _ _ h).trans ((jce _ _ _ _ h).trans ((jce _ _ _ _ h).trans ((jce _ _ _ _ h).trans ((jce _ _ _ _ h).trans ((jce _ _ _ _ h).trans (jce _ _ _ _ h))))))))
variable {c:Nat}
def qtu {d:Lv} (h:qd W b d) (e:b≠c) (k t x y f g i j:Int) (v:Vl):qd (js W c k t x y f g i j v) b d:=
 h.kept (qco e _ _ _ _ _ _ _ _ _) (by simp[js,World.setCell])
variable {r:Option Nat}
def qb6 {p:Addr} (h:w.grownBy W r) (f:w.heap.size<=p.block) (v:Vl):w.grownBy (W.setCell p v) r:=
 ⟨h.os,h.tape,h.output,by simpa[World.setCell]using h.size,λk d e=>(jce _ _ _ _ oe).trans (h.block k d e)⟩
def q7i (h:w.grownBy W r) (d:w.heap.size<=b) (j k t x e f g i:Int) (v:Vl):w.grownBy (js W b j k t x e f g i v) r:=
 qb6 (qb6 (qb6 (qb6 (qb6 (qb6 (qb6 (qb6 (qb6 h d _) d _) d _) d _) d _) d _) d _) d _) d _
def qxf (w:Wl) (t:TxP) (e:Ending) (w':Wl):Prop:=∃m,m.t=t/\e=.returned (txV m)/\qr w' m.wa m.wc m.t.ws/\(∀k,m.blk k->w.heap.size<=k)/\Bw w w'
def q5m {y:Wl} {g:Nat} {d f wall h i j t x:Int} {v:Vl} (H:qr y (PT g) c ws) (G:w.heap.size+2<=g) (z:Bw w y):
 qxf w ⟨d,f,wall,h,i,j,t,x,ws⟩ (.returned (txV ⟨⟨d,f,wall,h,i,j,t,x,ws⟩,some (AD g 0),c⟩)) (js (y.setCell (AD w.heap.size 8) v) (w.heap.size+1) d f wall h i j t x v):=by
 have A:=z.setCell (p:=AD w.heap.size 8) (jcd _) v;have B:=qd9 A (Nat.le_succ _) d f wall h i j t x v;have C:g≠w.heap.size+1:=oe;have E:g≠w.heap.size:=oe;have F:(js (y.setCell (AD w.heap.size 8) v) (w.heap.size+1) d f wall h i j t x v).heap[g]?=y.heap[g]?:=(qco C d f wall h i j t x v).trans (jce _ _ _ _ E);generalize js (y.setCell (AD w.heap.size 8) v) (w.heap.size+1) d f wall h i j t x v=W at*;refine⟨⟨⟨d,f,wall,h,i,j,t,x,ws⟩,some (AD g 0),c⟩,rfl,rfl,?_,?_,B⟩
 .refine qr.kept (m:=⟨⟨d,f,wall,h,i,j,t,x,ws⟩,some (AD g 0),c⟩) (w:=y) H (λk e=>?_);obtain⟨_,o,e⟩:=e;injection e with e;injection e with e1 e2;rw[<-e1];exact F
 rintro k ⟨_,o,e⟩;injection e with e;injection e with e1 e2;omega
def qta {tmps:Av} (h:qd w b (txC m)) (d:tmps[2]?=some (PP b)):
 (results f192 tmps).run prog w=.ok (txV m) w:=by
 obtain⟨e,f,g,i,j,k,p,t,x⟩:=h.c9;simp[results,results192,go_sem,d,e,f,g,i,j,k,p,t,x,txV]
def qgq (m:TxM) (w:Wl) (F:qr w m.wa m.wc m.t.ws) (B:1<=m.t.ws.length) (G:m.t.ws.length<=1000):
 Ca 192 #[txV m] w (qxf w m.t):=by
 obtain⟨⟨d,h,wall,i,j,k,p,x,ws⟩,a,A⟩:=m;simp only at F B G;show Ca 192 #[.agg (List.toArray (T9 d h wall i j k p x a ws.length A))] w _;have y:=(qd.new (w:=w) (T:=122) (T9 d h wall i j k p x a ws.length A) rfl).boxed (.cells ZA 122);have z:=qd.new (w:=w.alloc (.cells (List.toArray (T9 d h wall i j k p x a ws.length A)) 122)) (T:=122) (n:=w.heap.size+1) ZL oi;have C:=boxed (boxed (jcc _ w) (.cells (List.toArray (T9 d h wall i j k p x a ws.length A)) 122)) (.cells ZA 122);have I:=F.later C;have P:=y.c 8;go_enter func192,ntmps192;go_wp2_with fail
 refine(q2l _ I B G).mono ?_;rintro e H ⟨g,c,rfl,W1,J,E⟩;replace y:=y.later E;replace z:=z.later E;replace C:=qa C E;have R:=y.f 8;have RS:=y.set 8 (.slice (PT g) ws.length c) oi;have K:=z.far (AD w.heap.size 8) (.slice (PT g) ws.length c) oi;have V:g<H.heap.size:=by
  obtain e|⟨X,Y,e,L⟩:=W1.held
  .rw[e]at B;simp at B
  injection e with e;injection e with e1 e2;subst e1;exact jcr _ _ (L 0 oe).1
 have M:w.heap.size+2<=g:=by simpa using J
 obtain⟨Z,c1,c2,c3,c4,c5,c6,c7,c8⟩:=y.c9;obtain⟨z0,z1,z2,z3,z4,z5,z6,z7,z8⟩:=z.f9;obtain⟨y0,y1,y2,y3,y4,y5,y6,y7,y8⟩:=z.c9;have N:=yz K rfl d h wall i j k p x (.slice (PT g) ws.length c);have O:Hid (qxf w ⟨d,h,wall,i,j,k,p,x,ws⟩ (.returned (txV ⟨⟨d,h,wall,i,j,k,p,x,ws⟩,some (AD g 0),c⟩)) (js (H.setCell (AD w.heap.size 8) (.slice (PT g) ws.length c)) (w.heap.size+1) d h wall i j k p x (.slice (PT g) ws.length c))):=q5m W1 M C;go_wp2_with fail
 exact bodyPost_ret (qta (m:=⟨⟨d,h,wall,i,j,k,p,x,ws⟩,some (AD g 0),c⟩) N rfl) rfl O.out
variable {D:DataW Vl}
def qd5.put {ws:List TxM} (e:∀x∈ws,wfN x) (i:qgu (ws.map (·.t))) (j:w.ownsMap prog 290 qcd bm ws.length D) (k:qo5 D ws) (f:wfN m) (g:∀x∈ws,vv x.t m.t=false)
 (p:w'.ownsMap prog 290 qcd bm (ws.length+1) (D.put (qed m.t.site m.t.seq) (.held (txV m)))):qd5 w' bm (ws++[m]):=by
 refine⟨λx d=>?_,?_,_,by rw[jcl];exact p,q1m (j.tidy qk2) k e f g⟩
 .obtain h|h:=jcf.1 d
  .exact e x h
  rw[jcj.1 h];exact f
 rw[jdb];refine qgu.snoc i (λx d=>?_);obtain⟨y,z,rfl⟩:=jcz.1 d;exact g y z
def qd5.del {ws:List TxM} (d:∀x∈ws,wfN x) (e:qgu (ws.map (·.t))) (h:w.ownsMap prog 290 qcd bm ws.length D) (i:qo5 D ws) (j:m∈ws)
 (k:w'.ownsMap prog 290 qcd bm ws.length (D.del (qed m.t.site m.t.seq))):qd5 w' bm (qgc ws m.t):=by
 have f:=q1j (h.tidy qk2) i d e j;refine⟨λx p=>d x (qh2.1 p).1,by rw[qm0];exact e.drop _,_,?_,f⟩;obtain⟨y,z,B,C,E,g⟩:=k;refine⟨y,z,B,C,?_,g⟩;have:=f.size;rw[g]at this;simp[Maps.size,length_sorted]at this;omega
variable {l:List TxM}
def q0o (m:TxM) (w:Wl) (z:qd5 w bm l) (d:wfN m) (B:∀x∈l,vv x.t m.t=false) (C:l.length<=1000):
 Ca 202 #[.map (some bm),txV m] w λe w'=>e=.returned (.tuple #[])/\qd5 w' bm (l++[m])/\w.grownBy w' (some bm):=by
 obtain⟨E,F,D,y,G⟩:=z;have H:Hid (∀w',_->qd5 w' bm (l++[m])):=λw'=>qd5.put (w':=w') E F y G d B;have I:=hd1 (qqe d.1 d.2);have J:=hd1 C;obtain⟨⟨f,g,wall,h,i,j,k,p,ws⟩,a,A⟩:=m;have K:=World.grownBy_alloc w (.cells (List.toArray (T9 f g wall h i j k p a ws.length A)) 122) (some bm);have L:=y.alloc (.cells (List.toArray (T9 f g wall h i j k p a ws.length A)) 122);show Ca 202 #[.map (some bm),.agg (List.toArray (T9 f g wall h i j k p a ws.length A))] w _;go_enter func202,ntmps202
 go_wp2_with (at_mapUpdate;refine wpList_mapUpdate_in _ rfl _ _ _ 181 rfl 290 122 qk2 underlying181 qcd bm l.length D rfl L (by have:=J.out;simp only[maxLen];omega) _ _ _ rfl rfl I.out _ _ rfl ?_;intro O M N)
 go_end0;exact⟨rfl,H.out O M,K.trans N.grown⟩
def qmj {v:Vl} {d:DataW Vl} {e:List MemPlace} (h:qcd v=some (d,e)):d=.held v:=by
 unfold qcd at h;injection h with h;injection h with h1 h2;exact h1.symm
variable {o:Oper} {a:Act} {Q:Exit->Act->Wv} {q:Int} {u:Vl}
def qu4 {g:Array Oper} {rest:List Oper} (w:Wl) (h:o.guard=none) (d f:Operand) (i:o.op=Op.lookup 181 d f true)
 (j:a.eval d=.map (some bm)) (k:w.ownsMap prog 290 qcd bm n D) (p:a.eval f=qtn s q) (t:keyOf prog 290 (qtn s q)=some (qed s q)) (x:Maps.has D (qed s q)=v) (y:D.atKey (qed s q) (.held qyo)=.held u)
 (z:wpList prog g Q rest (a.put o.dst (.tuple #[u,.bool v])) w):wpList prog g Q (o::rest) a w:=by
 refine wpList_lookup_own_ok w h d f 181 i 290 122 qk2 underlying181 qcd (q0m w) (.held qyo) [] rfl bm n D j k (qtn s q) (qed s q) p t ?_;intro C A B;have e:=qmj B;rw[y]at e;injection e with e;rw[<-e,x];exact z
def qsv {d:Array Oper} {rest:List Oper} (w:Wl) (h:o.guard=none) (f g:Operand) (i:o.op=Op.lookup 181 f g false)
 (j:a.eval f=.map (some bm)) (k:w.ownsMap prog 290 qcd bm n D) (p:a.eval g=qtn s q) (t:keyOf prog 290 (qtn s q)=some (qed s q)) (x:D.atKey (qed s q) (.held qyo)=.held u)
 (y:wpList prog d Q rest (a.put o.dst u) w):wpList prog d Q (o::rest) a w:=by
 refine wpList_plain h λE z=>?_;obtain⟨F,A,B,C⟩:=k.lookup qk2 underlying181 (q0m w) (zd:=.held qyo) (zp:=[]) rfl t;have e:=qmj C;rw[x]at e;injection e with e;subst e;unfold Oper.wp;simp[execOp,i,j,p,B,Result.andThen];exact z _ _ y
def qty {tmps:Av} (h:qd w b (txC m)) (d:tmps[6]?=some (PP b)) (e:tmps[7]?=some (.bool v)):
 (results f235 tmps).run prog w=.ok (.tuple #[txV m,.bool v]) w:=by
 obtain⟨f,g,i,j,k,p,t,x,y⟩:=h.c9;simp[results,results235,go_sem,d,e,f,g,i,j,k,p,t,x,y,txV]
def tx0:TxM:=⟨⟨0,0,0,0,0,0,0,0,[]⟩,none,0⟩
structure qpl (l:List TxM) (s q:Int) (m:TxM) (v:Bool):Prop where
 yes:v=true->m∈l/\m.t.site=s/\m.t.seq=q
 no:v=false->m=tx0/\∀x∈l,¬(x.t.site=s/\x.t.seq=q)
def q0t (l:List TxM) (s q:Int):∃m v,qpl l s q m v:=by
 by_cases h:∃m∈l,m.t.site=s/\m.t.seq=q
 .obtain⟨m,d,f,g⟩:=h;exact⟨m,true,λ_=>⟨d,f,g⟩,λe=>oJ⟩
 exact⟨tx0,false,λe=>oJ,λ_=>⟨rfl,λx i e=>h ⟨x,i,e⟩⟩⟩
def qvd (p:qpl l s q m v) (t:wfI s) (x:wfI q) (w:Wl) (z:qd5 w bm l):
 Ca 235 #[.map (some bm),U s,U q] w (Rn (.tuple #[txV m,.bool v]) w):=by
 obtain⟨M,N,D,B,y⟩:=z;have C:=hd1 (qqe t x);have E:Maps.has D (qed s q)=v/\D.atKey (qed s q) (.held qyo)=.held (txV m):=by
  cases v with
  |true=>
   obtain⟨p1,p2,p3⟩:=p.yes rfl;have:=y.has m p1;rw[p2,p3]at this;exact⟨this.1,this.2 _⟩
  |false=>
   obtain⟨p1,p2⟩:=p.no rfl;have e:=y.no s q t x p2;exact⟨e,by rw[atKey_of_not_has e,p1];rfl⟩
 obtain⟨F,G⟩:=E;have H:=B.alloc (.cells ZA 122);have O:=boxed (boxed (jcc _ w) (.cells ZA 122)) (.cells ZA 122);have I:=hd1 G;have J:=hd1 F;obtain⟨⟨d,f,wall,g,h,i,j,k,ws⟩,a,A⟩:=m;have K:=(qd.new (w:=w) (T:=122) (T9 d f wall g h i j k a ws.length A) rfl).boxed (.cells (List.toArray (T9 d f wall g h i j k a ws.length A)) 122);have L:=boxed (boxed (jcc _ w) (.cells (List.toArray (T9 d f wall g h i j k a ws.length A)) 122)) (.cells (List.toArray (T9 d f wall g h i j k a ws.length A)) 122);go_enter func235,ntmps235;go_wp2_with (at_lookup;refine qu4 _ rfl _ _ rfl (u:=.agg (List.toArray (T9 d f wall g h i j k a ws.length A))) rfl H rfl C.out J.out I.out ?_)
 exact bodyPost_ret (qty (m:=⟨⟨d,f,wall,g,h,i,j,k,ws⟩,a,A⟩) K rfl rfl) rfl ⟨rfl,L⟩
def jac (d:qpl l s q m v) (f:wfI s) (g:wfI q) (w:Wl) (h:qd5 w bm l):
 Ca 200 #[.map (some bm),U s,U q] w (Rn (.bool v) w):=by
 have F:=qvd d f g w h;obtain⟨⟨j,k,wall,p,t,x,y,z,ws⟩,a,A⟩:=m;go_enter func200,ntmps200;go_wp2_with fail
 refine F.mono ?_;rintro e B ⟨rfl,i⟩;simp only[txV];go_wp2_with fail
 go_ret;exact⟨rfl,boxed i _⟩
def qtp {tmps:Av} (h:qd w b (txC m)) (d:tmps[6]?=some (PP b)):
 (results f238 tmps).run prog w=.ok (txV m) w:=by
 obtain⟨e,f,g,i,j,k,p,t,x⟩:=h.c9;simp[results,results238,go_sem,d,e,f,g,i,j,k,p,t,x,txV]
def q46 (z:m∈l) (w:Wl) (E:qd5 w bm l):
 Ca 238 #[.map (some bm),U m.t.site,U m.t.seq] w λe w'=>e=.returned (txV m)/\qd5 w' bm (qgc l m.t)/\w.grownBy w' (some bm):=by
 have J:=E.lt;obtain⟨B,K,D,F,G⟩:=E;have H:=hd1 (qqe (B m z).1 (B m z).2);have L:Hid (D.atKey (qed m.t.site m.t.seq) (.held qyo)=.held (txV m)):=(G.has m z).2 _;have M:=hd1 (λw'=>qd5.del (w':=w') B K F G z);have I:=F.alloc (.cells ZA 122);obtain⟨⟨h,i,wall,j,k,p,x,y,ws⟩,a,A⟩:=m;have N:=I.alloc (.cells (List.toArray (T9 h i wall j k p x y a ws.length A)) 122);have O:=qd.new (w:=w.alloc (.cells ZA 122)) (T:=122) (n:=w.heap.size+1) (T9 h i wall j k p x y a ws.length A) oi;have P:=(qd.new (w:=w) (T:=122) ZL rfl).boxed (.cells (List.toArray (T9 h i wall j k p x y a ws.length A)) 122);have R:=(World.grownBy_alloc w (.cells ZA 122) (some bm)).trans (World.grownBy_alloc _ (.cells (List.toArray (T9 h i wall j k p x y a ws.length A)) 122) (some bm));go_enter func238,ntmps238;go_wp2_with (first|(at_lookup;refine qsv _ rfl _ _ rfl (u:=.agg (List.toArray (T9 h i wall j k p x y a ws.length A))) rfl I rfl H.out L.out ?_)|(at_delete;refine wpList_delete_own _ rfl _ _ 181 290 rfl 122 qk2 underlying181 qcd bm l.length D rfl N _ _ rfl H.out ?_;intro V X C;have g:=O.grown C.grown (λe=>by injection e with e;omega);have d:=P.grown C.grown (λe=>by injection e with e;omega);have Y:=g.c 0;have Z:=d.c 0;have z0:=d.f 0;have c1:=g.c 1;have y1:=d.c 1;have z1:=d.f 1;have c2:=g.c 2;have y2:=d.c 2;have z2:=d.f 2;have c3:=g.c 3;have y3:=d.c 3;have z3:=d.f 3;have c4:=g.c 4;have y4:=d.c 4;have z4:=d.f 4;have c5:=g.c 5;have y5:=d.c 5;have z5:=d.f 5;have c6:=g.c 6;have y6:=d.c 6;have z6:=d.f 6;have c7:=g.c 7;have y7:=d.c 7;have z7:=d.f 7;have c8:=g.c 8;have y8:=d.c 8;have z8:=d.f 8))
 exact bodyPost_ret (qtp (m:=⟨⟨h,i,wall,j,k,p,x,y,ws⟩,a,A⟩) (yz d rfl h i wall j k p x y (.slice a ws.length A)) rfl) rfl ⟨rfl,(M.out V X).kept (qco (Nat.ne_of_lt J) _ _ _ _ _ _ _ _ _),q7i (R.trans C.grown) (jcd _) _ _ _ _ _ _ _ _ _⟩
def qe0 {F:Np} {log waits:List TxM} (d:decide (200<=log.length)=v) (w:Wl) (h:zf w b lv bm F S log waits):
 Ca 189 #[PP b] w (Rn (.bool v) w):=by
 obtain⟨f,lc,rfl,g⟩:=yx h.rlog;have i:=h.box.c 7;have e:decide ((200:Int)<=(log.length:Int))=v:=by rw[<-d];exact decide_eq_decide.2 oe
 go_enter func189,ntmps189;go_wp2_with fail
 go_ret;refine⟨?_,jcc _ _⟩;first|rfl|(simp[e])
def qmz (e:0<=s) (f:s<=3):(qab S lv bm)[1+s.toNat]?=some (U (qp s S.a0 S.a1 S.a2 S.a3)):=by
 have d:s=0\/s=1\/s=2\/s=3:=oe;obtain rfl|rfl|rfl|rfl:=d<;>rfl
end
section
open _root_.Go.Proofs.Tryz
def qd1 {x:Int} (h:qag x):wrap64 (x+1)=x+1:=by
 obtain⟨a,b⟩:=h;unfold wrap64;omega
def qnn {b:Nat} {X:Vl} {Y:Nat} {F:Np} {S:qe} {log waits:List TxM} {v:Bool} (m:TxM) (w:Wl) (h:zf w b X Y F S log waits) (y:0<=m.t.site) (z:m.t.site<=3) (p:qag (qp m.t.site S.a0 S.a1 S.a2 S.a3)) (e:qz S m.t=v):
 Ca 201 #[PP b,txV m] w (Rn (.bool v) w):=by
 obtain⟨⟨g,d,wall,q,i,j,k,l,ws⟩,a,A⟩:=m;simp only at y z p e;have r:=boxed (jcc _ w) (.cells (List.toArray (T9 g d wall q i j k l a ws.length A)) 122);have f:=qd.new (w:=w) (T:=122) (T9 g d wall q i j k l a ws.length A) rfl;have I:=qb.one;have n:=h.later r;have J:=qb.cell (f.c 0);have K:=qb.cell (f.c 1);have L:=qb.cell (f.c 4);have M:=qb.cell (f.c 5);have N:=qb.cell (f.c 6);have O:=qb.cell (f.c 7);have P:=qb.cell (n.box.c 1);have Q:=qb.cell (n.box.c 2);have R:=qb.cell (n.box.c 3);have V:=qb.cell (n.box.c 4);have C:=qb.cell (n.box.cell _ _ (qmz y z));have s:qz S ⟨g,d,wall,q,i,j,k,l,ws⟩=(decide (d=qp g S.a0 S.a1 S.a2 S.a3+1)&&qa8 S.a0 S.a1 S.a2 S.a3 i j k l):=rfl;obtain⟨D,B⟩:∃D,qp g S.a0 S.a1 S.a2 S.a3=D:=⟨_,rfl⟩;rw[B]at C p s;rw[s]at e;have W:=qd1 p;clear s h n f B;show Ca 201 #[PP b,.agg (List.toArray (T9 g d wall q i j k l a ws.length A))] w _;by_cases o:d=D+1
 .have E:(d==D+1)=true:=by simp[o]
  have u:decide (d=D+1)=true:=by simp[o]
  have G:Hid (qa8 S.a0 S.a1 S.a2 S.a3 i j k l=v):=by
   show _=_;rw[u]at e;simpa using e
  clear e p o;go_enter func201,ntmps201;go_wp2_with fail
  refine wrl ?_;repeat (go_big_quiet_step (first|rfl|(go_at_call 157;with_reducible exact qg (qh3 G.out _))))
  refine wpQuiet_nil ?_;rintro Z ⟨⟨_,x⟩,rfl⟩;go_wp2_with fail
  go_ret;exact⟨rfl,qa r x⟩
 have E:(d==D+1)=false:=by simp[o]
 have u:decide (d=D+1)=false:=by simp[o]
 have H:Hid (false=v):=by
  show _=_;rw[u]at e;simpa using e
 clear e p o;go_enter func201,ntmps201;go_wp2_with fail
 refine wrl ?_;repeat (go_big_quiet_step (first|rfl|fail))
 refine wpQuiet_nil ?_;rintro Z ⟨⟨_,x⟩,rfl⟩;go_wp2_with fail
 go_ret;exact⟨by rw[<-H.out];rfl,qa r x⟩
def q1q {waits:List TxM} {s:Int} {m:TxM} {v:Bool} (c:qpl waits s (qp s S.a0 S.a1 S.a2 S.a3+1) m v) (d:waits.map (·.t)=S.waits) (f:qgu S.waits):
 (v=false->qbt S s=none)/\(v=true->(qz S m.t=false->qbt S s=none)/\(qz S m.t=true->qbt S s=some m.t)):=by
 refine⟨λe=>qjy (λx g i=>?_),λe=>?_⟩
 .obtain⟨_,h⟩:=c.no e;rw[<-d]at g;obtain⟨y,n,rfl⟩:=jcz.1 g;have o:=h y n;cases a:qz S y.t with
  |false=>rfl
  |true=>
   have:=(qgo a).1;rw[i]at this;exact absurd ⟨i,this⟩ o
 obtain⟨p,j,q⟩:=c.yes e;have k:m.t∈S.waits:=by rw[<-d];exact jcz.2 ⟨m,p,rfl⟩
 refine⟨λa=>?_,λa=>by rw[<-j];exact qw3 f k a⟩;cases hp:qbt S s with
 |none=>rfl
 |some y=>
  obtain⟨p1,p2,p3⟩:=qbv hp;have l:=(qgo p3).1;rw[p2]at l;rw[f.uniq p1 k (by rw[p2,j]) (by rw[l,q]),a]at p3;cases p3
structure NxB (A b bm:Nat) (s D:Int) (w:Wl):Prop where
 c:w.cell? (AD A 0)=some (PP b)
 m:w.cell? (AD b 8)=some (.map (some bm))
 d:w.cell? (AD b (1+s.toNat))=some (U D)
def qyg {log waits:List TxM} (s:Int) (w:Wl) (K:w.cell? (AD A 0)=some (PP b)) (h:zf w b lv bm F S log waits) (P:waits.map (·.t)=S.waits) (z:j3 S) (Q:0<=s) (R:s<=3):
 Ca 236 #[U s,PP A] w (Rn (.bool (qbt S s).isSome) w):=by
 have B:=z.dep s;have V:=z.nums;have X:wfI (qp s S.a0 S.a1 S.a2 S.a3+1):=⟨by have:=B.1;omega,by have:=B.2;omega⟩;have Y:wfI s:=⟨oe,oe⟩;obtain⟨m,v,C⟩:=q0t waits s (qp s S.a0 S.a1 S.a2 S.a3+1);have Z:=q1q C P V;have L:v=true->0<=m.t.site/\m.t.site<=3:=λe=>by rw[(C.yes e).2.1];exact⟨Q,R⟩
 have E:NxB A b bm s (qp s S.a0 S.a1 S.a2 S.a3) w.drew:=⟨K,h.box.cell 8 _ rfl,h.box.cell _ _ (qmz Q R)⟩;have G:=hd1 (λW M=>qvd C Y X W (h.later M).map);have H:Hid (∀W,Bw w W->v=true->∀r,qz S m.t=r->Ca 201 #[PP b,txV m] W λe w'=>e=.returned (.bool r)/\Bw W w'):=λW M hv r I=>qnn m W (h.later M) (L hv).1 (L hv).2 (z.dep _) I;have g:=hd1 Z;have hw:=qd1 B;obtain⟨⟨k,l,wall,n,o,p,q,u,ws⟩,a,cap⟩:=m;obtain⟨D,hD⟩:∃D,qp s S.a0 S.a1 S.a2 S.a3=D:=⟨_,rfl⟩;rw[hD]at hw E G
 have hw2:IntKind.i64.wrap (D+1)=D+1:=by rw[<-hw];unfold wrap64 IntKind.wrap;simp[IntKind.signed,IntKind.bits];omega
 rw[<-hw2]at G;have h4:s<4:=oe;have hbl:=h.box.lt;have hal:A<w.heap.size:=jcr _ _ K;have x:NxB A b bm s D w:=⟨E.c,E.m,E.d⟩;have Y0:=λ(w':Wl) (h:Bw w w')=>cell_later h x.c;have Y1:=λ(w':Wl) (h:Bw w w')=>cell_later h x.m;have Y2:=λ(w':Wl) (h:Bw w w')=>cell_later h x.d;have hbD:=(jcc w.heap.size w).drew;clear hw2 Z C B V X Y L hD z P h K;go_enter func236,ntmps236
 go_wp2_with fail
 go_region_held3 (λw'=>Bw w w') (repeat (first|(with_reducible assumption)|(with_reducible exact jcc _ _)|(with_reducible refine boxed ?_ _)|(with_reducible refine jc6 ?_)|(refine jdz ?_ (by first|(with_reducible exact jcd _)|(have:=Below.size oG;simpa using this)) _)))
  (first
    |(go_at_call 235;with_reducible refine(G.out (w.alloc (.cells ZA 122)).drew ((boxed (jcc w.heap.size w) (.cells ZA 122)).drew)).mono ?_;rintro e w2 ⟨rfl,j⟩;have y:=qa ((boxed (jcc w.heap.size w) (.cells ZA 122)).drew) j;have f:=((qd.new (w:=w) (T:=122) ZL rfl).drew).later j;have y0:=f.cell 0 _ rfl;have z0:=f.free 0 oi;have y1:=f.cell 1 _ rfl;have z1:=f.free 1 oi;have y2:=f.cell 2 _ rfl;have z2:=f.free 2 oi;have y3:=f.cell 3 _ rfl;have z3:=f.free 3 oi;have y4:=f.cell 4 _ rfl;have z4:=f.free 4 oi;have y5:=f.cell 5 _ rfl;have z5:=f.free 5 oi;have y6:=f.cell 6 _ rfl;have z6:=f.free 6 oi;have y7:=f.cell 7 _ rfl;have z7:=f.free 7 oi;have y8:=f.cell 8 _ rfl;have z8:=f.free 8 oi;simp only[txV])
    |(go_at_call 235;with_reducible refine(G.out _ oG).mono ?_;rintro e w2 ⟨rfl,j⟩;have y:=qa oG j;simp only[txV]))
 have i:=boxed y (.cells (List.toArray (T9 k l wall n o p q u a ws.length cap)) 122);have N:=qd.new (w:=w2) (T:=122) (T9 k l wall n o p q u a ws.length cap) rfl;have b0:=cell_later i x.c;obtain⟨c0,c1,c2,c3,c4,c5,c6,c7,c8⟩:=N.c9;clear Y0 Y1 Y2 y j;cases v
 .have O:=hd1 (g.out.1 rfl);clear g H;go_wp2_with fail
  go_ret;exact⟨by rw[O.out];rfl,i⟩
 rotate_left;have i:=qd9 y (jcd _) k l wall n o p q u (.slice a ws.length cap);have N:=yz f rfl k l wall n o p q u (.slice a ws.length cap);clear f y0 y1 y2 y3 y4 y5 y6 y7 y8 z0 z1 z2 z3 z4 z5 z6 z7 z8;have b0:=cell_later i x.c;obtain⟨c0,c1,c2,c3,c4,c5,c6,c7,c8⟩:=N.c9;clear Y0 Y1 Y2 y j;cases v
 .have O:=hd1 (g.out.1 rfl);clear g H;go_wp2_with fail
  go_ret;exact⟨by rw[O.out];rfl,i⟩
 all_goals
  obtain⟨r,I⟩:∃r,qz S ⟨k,l,wall,n,o,p,q,u,ws⟩=r:=⟨_,rfl⟩;have J:=hd1 I;clear I;have RR:=H.out _ i rfl r J.out;have HP1:Hid ((qbt S s).isSome=r):=by
   show _=_;cases r
   .rw[((g.out.2 rfl).1 J.out)];rfl
   rw[((g.out.2 rfl).2 J.out)];rfl
  clear g H J;simp only[txV]at RR;go_wp2_with fail
  refine RR.mono ?_;rintro e w3 ⟨rfl,hb3⟩;go_wp2_with fail
  go_ret;exact⟨by rw[HP1.out];rfl,qa i hb3⟩
def qks (S:qe):Nat->Option TxP
 |0=>none
 |n+1=>match qks S n with
  |some x=>some x
  |none=>qbt S n
def qpp (S:qe):qks S 4=qd7 S:=by
 cases h0:qbt S 0<;>cases h1:qbt S 1<;>cases h2:qbt S 2<;>simp[qks,qd7,h0,h1,h2]
def q76 (S:qe) (e:Ending):Prop:=(∃x,qd7 S=some x/\e=.returned (.tuple #[U x.site,.bool true]))\/(qd7 S=none/\e=.returned (.tuple #[U 0,.bool false]))
def q03 {log waits:List TxM} (w:Wl) (n:w.cell? (AD A 0)=some (PP b)) (h:zf w b lv bm F S log waits) (o:waits.map (·.t)=S.waits) (p:j3 S):
 Ca 237 #[.func (.func 236) #[] #[PP A]] w λe w'=>
  q76 S e/\Bw w w':=by
 have r:=hd1 (λW a s u q=>qyg s W (cell_later a n) (h.later a) o p u q);clear n h o p;go_enter func237,ntmps237;go_wp2_with fail
 go_loopw [5] (λiv wr=>∃(k:Nat) (z:Int),k<=4/\z=k/\iv=U z/\Hid (qks S k=none)/\Bw w wr) (λi _=>4-(intOf i).toNat)
 case atStart=>exact⟨0,0,oe,rfl,rfl,rfl,jcc _ _⟩
 obtain⟨k,z,D,c,rfl,l,a⟩:=hrel;have d:=hd1 c;by_cases E:k<4
 .have y:z<4:=oe;have q:0<=z:=oe;have f:=r.out wr a z oe oe;cases hp:qbt S z with
  |none=>
   have g:=hd1 hp;rw[hp]at f;clear c hp;go_wp2_with fail
   refine f.mono ?_;rintro e G ⟨rfl,m⟩;go_wp2_with fail
   go_roundw
   case rel=>
        refine⟨k+1,z+1,oe,by have:=d.out;omega,oI,?_,qa a m⟩;show qks S (k+1)=none;simp only[qks];rw[l.out,<-d.out];exact g.out
   simp[intOf];have:=d.out;omega
  |some x=>
   have g:=hd1 hp;rw[hp]at f;clear c hp;go_wp2_with fail
   refine f.mono ?_;rintro e G ⟨rfl,m⟩;go_wp2_with fail
   refine bodyPost_ret (v:=.tuple #[U z,.bool true]) (by simp[results,results237,go_sem]) rfl ⟨.inl ⟨x,?_,by rw[(qbv g.out).2.1]⟩,qa a m⟩
   have B:qks S (k+1)=some x:=by
        simp only[qks];rw[l.out,<-d.out];exact g.out
   have C:∀j,qks S (k+1+j)=some x:=λj=>by
        induction j with
        |zero=>exact B
        |succ j ih=>rw[<-nz];simp only[qks];rw[ih]
   have:=C (3-k);rw[show k+1+(3-k)=4 by omega,qpp]at this;exact this
 have y:¬z<4:=oe;obtain rfl:k=4:=oe;clear c;go_wp2_with fail
 exact bodyPost_ret (v:=.tuple #[U 0,.bool false]) (by simp[results,results237,go_sem]) rfl ⟨.inr ⟨by rw[<-qpp];exact l.out,rfl⟩,a⟩
def qru (a c d i:Int):qdr a c d i<0↔0<qdr d i a c:=by
 obtain⟨h,e⟩|⟨h,e⟩|⟨h,e⟩:=qcw a c d i<;>obtain⟨g,f⟩|⟨g,f⟩|⟨g,f⟩:=qcw d i a c<;>rw[e,f]<;>constructor<;>intro k<;>omega
def q4d {lw lc a c x y:Int} (d:(if 0<qdr a c lw lc then a else lw)=x) (f:(if 0<qdr a c lw lc then c else lc)=y) (w:Wl):
 Ca 232 #[.agg #[U lw,U lc],.agg #[U a,U c]] w (Rn (.agg #[U x,U y]) w):=by
 subst d f;by_cases h:0<qdr a c lw lc
 .rw[if_pos h,if_pos h];exact q8l lw lc a c w ((qru lw lc a c).2 h)
 rw[if_neg h,if_neg h];exact q78 lw lc a c w (λe=>h ((qru lw lc a c).1 e))
structure qje (w0:Wl) (b:Nat) (lv:Vl) (bm:Nat) (F:Nat->Prop) (S:qe) (log waits:List TxM) (m:TxM) (k:Nat) (F':Nat->Prop) (wr:Wl):Prop where
 mem:zf wr b lv bm F' {S with l:=qbz m.t (m.t.ws.take k) S.l} log waits
 box:qd wr w0.heap.size (txC m)
 far:¬jn b lv bm F' w0.heap.size
 foot:∀j,jn b lv bm F' j->jn b lv bm F j\/w0.heap.size<=j
 touch:qc (jn b lv bm F) w0 wr
variable {w0 wr:Wl} {F':Np}
def qje.later {log waits:List TxM} (h:qje w0 b lv bm F S log waits m k F' wr) (a:Bw wr w'):qje w0 b lv bm F S log waits m k F' w':=
 ⟨h.mem.later a,h.box.later a,h.far,h.foot,h.touch.trans (qc.ofBelow a)⟩
def qje.put {log waits:List TxM} (h:qje w0 b lv bm F S log waits m k F' wr) (f:k<m.t.ws.length)
 (g:qf8 wr b 25 F' (qa4 (qbz m.t (m.t.ws.take k) S.l) (qa7 m.t.ws k).key (qne m.t (qa7 m.t.ws k))) w'):∃c,qje w0 b lv bm F S log waits m (k+1) c w':=by
 obtain⟨c,i,e,d⟩:=h.mem.store g;refine⟨c,by rw[qpz f];exact i,h.box.kept (d.block _ h.box.lt h.far) d.size,λn=>?_,λj o=>?_,h.touch.more d h.foot⟩
 .obtain a|a:=e _ n
  .exact h.far a
  have:=h.box.lt;omega
 obtain a|a:=e j o
 .exact h.foot j a
 exact .inr (by have:=h.touch.size;omega)
def qje.outside {log waits:List TxM} {c:Nat} {o:Lv} {e:List Hd} (h:qje w0 b lv bm F S log waits m k F' wr)
 (f:qf8 wr b 25 F' e w') (d:qd wr c o) (g:¬jn b lv bm F' c):ApB w0.heap.size c (txC m) o w':=by
 obtain⟨i,j,l,a⟩:=h.mem.store f;exact⟨h.box.kept (a.block _ h.box.lt h.far) a.size,d.kept (a.block _ d.lt g) a.size⟩
structure PaE (w0:Wl) (b:Nat) (lv:Vl) (bm:Nat) (F:Nat->Prop) (S:qe) (log waits:List TxM) (m:TxM) (F':Nat->Prop) (wr:Wl):Prop where
 mem:zf wr b lv bm F' S log waits
 box:qd wr w0.heap.size (txC m)
 far:¬jn b lv bm F' w0.heap.size
 foot:∀j,jn b lv bm F' j->jn b lv bm F j\/w0.heap.size<=j
 touch:qc (jn b lv bm F) w0 wr
def PaE.later {log waits:List TxM} (h:PaE w0 b lv bm F S log waits m F' wr) (a:Bw wr w'):PaE w0 b lv bm F S log waits m F' w':=
 ⟨h.mem.later a,h.box.later a,h.far,h.foot,h.touch.trans (qc.ofBelow a)⟩
def PaE.seq {log waits:List TxM} (h:PaE w0 b lv bm F S log waits m F' wr) {s:Int} (x:Int) (a:0<=s) (c:s<=3):
 PaE w0 b lv bm F {S with a0:=qch s x S.a0,a1:=qcl s x S.a1,a2:=qck s x S.a2,a3:=qcj s x S.a3} log waits m F' (wr.setCell (AD b (1+s.toNat)) (U x)):=
 ⟨h.mem.seq x a c,h.box.far _ _ (λe=>h.far (.inl e.symm)),h.far,h.foot,h.touch.trans (qc.setCell wr (AD b (1+s.toNat)) _ (.inl rfl))⟩
def PaE.last {log waits:List TxM} (h:PaE w0 b lv bm F S log waits m F' wr) (x y:Int):
 PaE w0 b lv bm F {S with lw:=x,lc:=y} log waits m F' ((wr.setCell (AD b 5) (U x)).setCell (AD b 6) (U y)):=
 ⟨h.mem.last x y,(h.box.far _ _ (λe=>h.far (.inl e.symm))).far _ _ (λe=>h.far (.inl e.symm)),h.far,h.foot,(h.touch.trans (qc.setCell wr (AD b 5) _ (.inl rfl))).trans (qc.setCell _ (AD b 6) _ (.inl rfl))⟩
def PaE.append {log waits:List TxM} {c:Wl} (h:PaE w0 b lv bm F S log waits m F' wr) (a:qr w0 m.wa m.wc m.t.ws/\∀k,m.blk k->¬jn b lv bm F k) {g f:Nat} (n:wr.grownBy c lv.ownBlock)
 (o:c.ownsRow 0 122 9 (.slice (PT g) (log.length+1) f) (log.length+1) (zw log++txC m)) (p:lv.ownBlock=some g\/wr.heap.size<=g):
 ∃i j,zf (c.setCell (AD b 7) (.slice (PT g) (log.length+1) f)) b i bm j S (log++[m]) waits/\(∀k,jn b i bm j k->jn b lv bm F k\/w0.heap.size<=k)/\qc (jn b lv bm F) w0 (c.setCell (AD b 7) (.slice (PT g) (log.length+1) f)):=by
 obtain⟨d,q,r⟩:=h.mem.append m ⟨a.1.kept (λk e=>h.touch.block k (a.1.blk_lt k e) (a.2 k e)),λk e s=>by
  obtain d|d:=h.foot k s
  .exact a.2 k e d
  have:=a.1.blk_lt k e;omega⟩ n o p
 refine⟨_,_,d,λk u=>?_,h.touch.more r h.foot⟩;obtain l|l:=q k u
 .exact h.foot k l
 exact .inr (by have:=h.touch.size;omega)
def qr3 {log waits:List TxM} (m:TxM) (w:Wl) (h:zf w b lv bm F S log waits) (M:qr w m.wa m.wc m.t.ws/\∀k,m.blk k->¬jn b lv bm F k) (hs0:0<=m.t.site) (hs1:m.t.site<=3) (hl:S.l.length+m.t.ws.length<=1000) (hlog:log.length<=1000):
 Ca 191 #[PP b,.agg (List.toArray (T9 m.t.site m.t.seq m.t.wall m.t.count m.t.d0 m.t.d1 m.t.d2 m.t.d3 m.wa m.t.ws.length m.wc))] w λe w'=>
  e=.returned (.tuple #[])/\∃r F',zf w' b r bm F' (vr S m.t) (log++[m]) waits/\(∀k,jn b r bm F' k->jn b lv bm F k\/w.heap.size<=k)/\qc (jn b lv bm F) w w':=by
 have R:=boxed (jcc _ w) (.cells (List.toArray (T9 m.t.site m.t.seq m.t.wall m.t.count m.t.d0 m.t.d1 m.t.d2 m.t.d3 m.wa m.t.ws.length m.wc)) 122);have V:=qd.new (w:=w) (T:=122) (txC m) rfl;change qd (w.alloc (.cells (List.toArray (T9 m.t.site m.t.seq m.t.wall m.t.count m.t.d0 m.t.d1 m.t.d2 m.t.d3 m.wa m.t.ws.length m.wc)) 122)) w.heap.size (txC m)at V;have X:qje w b lv bm F S log waits m 0 F (w.alloc (.cells (List.toArray (T9 m.t.site m.t.seq m.t.wall m.t.count m.t.d0 m.t.d1 m.t.d2 m.t.d3 m.wa m.t.ws.length m.wc)) 122)):=
  ⟨by simpa[qbz]using h.later R,V,λe=>mM _ (h.lt _ e),λj hj=>.inl hj,qc.ofBelow R⟩
 have N:=hd1 M;have hc1:=M.1.len;have hc2:=M.1.cap;clear M R V;go_enter func191,ntmps191;go_wp2_with fail
 obtain⟨W,hWW⟩:∃W,w.alloc (.cells (List.toArray (T9 m.t.site m.t.seq m.t.wall m.t.count m.t.d0 m.t.d1 m.t.d2 m.t.d3 m.wa m.t.ws.length m.wc)) 122)=W:=⟨_,rfl⟩;rw[hWW]at X ⊢;clear hWW;go_loopw [9] (λiv wr=>∃(k:Nat) (z:Int) (F':Np),k<=m.t.ws.length/\z=k/\iv=U z/\Hid (qje w b lv bm F S log waits m k F' wr)) (λi _=>m.t.ws.length-(intOf i).toNat)
 case atStart=>exact⟨0,0,F,oe,rfl,rfl,X⟩
 clear X;obtain⟨k,z,F',hk,Y,rfl,B⟩:=hrel;have HZ:=hd1 Y;by_cases C:k<m.t.ws.length
 .have n:z<(m.t.ws.length:Int):=oe;have h2:z.toNat=k:=oe;have h3:0<=z:=oe;clear Y;obtain⟨o,s,O,hcc⟩:∃o s,m.wa=some (AD o s)/\qbo w o s m.t.ws:=by
   obtain Z|Z:=N.out.1.held
   .rw[Z]at C;simp at C
   exact Z
  have aa:m.blk o:=⟨λe=>by rw[e]at C;simp at C,s,O⟩;have hwl:=N.out.1.blk_lt o aa;have P:=B.out.touch.block o hwl (N.out.2 o aa);obtain⟨⟨a,c,d⟩,hx⟩:∃x,qa7 m.t.ws k=x:=⟨_,rfl⟩;have G:=hcc k C;rw[hx]at G;have x0:wr.cell? (AD o (s+k*3))=some (U a):=by rw[jch (w:=w) P];exact G.1
  have x1:wr.cell? (AD o (s+k*3+1))=some (.string c):=by rw[jch (w:=w) P];exact G.2.1
  have x2:wr.cell? (AD o (s+k*3+2))=some (.bool d):=by rw[jch (w:=w) P];exact G.2.2
  have HX:=hd1 hx;have HWA:=hd1 O;rw[O];clear hcc aa P G hx O hwl;have hbx:=boxed (jcc _ wr) (.cells #[U a,.string c,.bool d] 127);have H:=(B.out.later hbx).later (jcc _ (wr.alloc (.cells #[U a,.string c,.bool d] 127))).drew;have Q:=(qd.new (w:=wr) (T:=127) [U a,.string c,.bool d] rfl).drew;change qd (wr.alloc (.cells #[U a,.string c,.bool d] 127)).drew wr.heap.size [U a,.string c,.bool d]at Q;have SB:ApB w.heap.size wr.heap.size (txC m) [U a,.string c,.bool d] (wr.alloc (.cells #[U a,.string c,.bool d] 127)).drew:=⟨H.box,Q⟩;have hll:(qbz m.t (m.t.ws.take k) S.l).length<=1000:=by
   have:=qf1 m.t (m.t.ws.take k) S.l;rw[jc5]at this;omega
  have PU:Hid (Ca 231 #[.pointer (some (AD b 25)),U a,.agg #[U m.t.wall,U m.t.count,U m.t.site,U m.t.seq,.string c,.bool d]] (wr.alloc (.cells #[U a,.string c,.bool d] 127)).drew λe w'=>e=.returned (jc (qb5 (qbz m.t (m.t.ws.take k) S.l) a ⟨m.t.wall,m.t.count,m.t.site,m.t.seq,c,d⟩))/\ApB w.heap.size wr.heap.size (txC m) [U a,.string c,.bool d] w'/\∃q,Hid (qje w b lv bm F S log waits m (k+1) q w')):=
   (q64 a ⟨m.t.wall,m.t.count,m.t.site,m.t.seq,c,d⟩ _ H.mem.st hll).mono λe w' ⟨he,hp⟩=>⟨he,H.outside hp Q (λhf=>mM _ (B.out.mem.lt _ hf)),H.put C (by rw[HX.out];exact hp)⟩
  have T0:=λ(w':Wl) (h:ApB w.heap.size wr.heap.size (txC m) [U a,.string c,.bool d] w')=>h.t.cell 0 _ rfl;have T1:=λ(w':Wl) (h:ApB w.heap.size wr.heap.size (txC m) [U a,.string c,.bool d] w')=>h.t.cell 1 _ rfl;have T2:=λ(w':Wl) (h:ApB w.heap.size wr.heap.size (txC m) [U a,.string c,.bool d] w')=>h.t.cell 2 _ rfl;have T3:=λ(w':Wl) (h:ApB w.heap.size wr.heap.size (txC m) [U a,.string c,.bool d] w')=>h.t.cell 3 _ rfl;have X0:=λ(w':Wl) (h:ApB w.heap.size wr.heap.size (txC m) [U a,.string c,.bool d] w')=>h.x.cell 0 _ rfl;have X1:=λ(w':Wl) (h:ApB w.heap.size wr.heap.size (txC m) [U a,.string c,.bool d] w')=>h.x.cell 1 _ rfl;have X2:=λ(w':Wl) (h:ApB w.heap.size wr.heap.size (txC m) [U a,.string c,.bool d] w')=>h.x.cell 2 _ rfl;clear H Q hbx hll B
  go_wp2_with fail
  go_region_held3 (λw'=>ApB w.heap.size wr.heap.size (txC m) [U a,.string c,.bool d] w') (with_reducible assumption)
   (first|(go_at_call 231;with_reducible refine PU.out.mono ?_;rintro e w5 ⟨rfl,SB5,q,AM3⟩))
  all_goals
   go_wp2_with fail
   go_roundw
   case rel=>exact⟨k+1,z+1,q,oe,oK,oI,AM3⟩
   simp[intOf];have:=HZ.out;omega
 have h4:¬z<(m.t.ws.length:Int):=oe;obtain rfl:k=m.t.ws.length:=oe;clear Y;have I:Hid (PaE w b lv bm F {S with l:=qbz m.t m.t.ws S.l} log waits m F' wr):=by
  have J:=B.out;refine⟨?_,J.box,J.far,J.foot,J.touch⟩;have:=J.mem;rw[jc9]at this;exact this
 have BX:=I.out.box;have t0:=BX.cell 0 _ rfl;have t1:=BX.cell 1 _ rfl;have s1:=I.out.mem.box.free (1+m.t.site.toNat) (by simp[qab];omega);obtain⟨ov,s0⟩:∃v,wr.cell? (AD b (1+m.t.site.toNat))=some v:=⟨_,I.out.mem.box.cell (1+m.t.site.toNat) _ (jcg (by simp[qab];omega))⟩;go_wp2_with fail
 go_region
 have u:Hid (PaE w b lv bm F {S with l:=qbz m.t m.t.ws S.l,a0:=qch m.t.site m.t.seq S.a0,a1:=qcl m.t.site m.t.seq S.a1,a2:=qck m.t.site m.t.seq S.a2,a3:=qcj m.t.site m.t.seq S.a3} log waits m F' (wr.setCell (AD b (1+m.t.site.toNat)) (U m.t.seq)).drew):=(I.out.seq m.t.seq hs0 hs1).later (jcc _ _).drew;obtain⟨W1,hW1⟩:∃W1,(wr.setCell (AD b (1+m.t.site.toNat)) (U m.t.seq)).drew=W1:=⟨_,rfl⟩;rw[hW1]at u ⊢;clear hW1 I B BX t0 t1 s0 s1;have t2:=u.out.box.cell 2 _ rfl;have t3:=u.out.box.cell 3 _ rfl;have l5:=u.out.mem.box.cell 5 _ rfl;have l6:=u.out.mem.box.cell 6 _ rfl;obtain⟨K,hlw⟩:∃x,(if 0<qdr m.t.wall m.t.count S.lw S.lc then m.t.wall else S.lw)=x:=⟨_,rfl⟩;obtain⟨L,hlc⟩:∃x,(if 0<qdr m.t.wall m.t.count S.lw S.lc then m.t.count else S.lc)=x:=⟨_,rfl⟩;have HLW:=hd2 hlw hlc;have PU:Hid (Ca 232 #[.agg #[U S.lw,U S.lc],.agg #[U m.t.wall,U m.t.count]] W1.drew λe w'=>e=.returned (.agg #[U K,U L])/\Hid (PaE w b lv bm F {S with l:=qbz m.t m.t.ws S.l,a0:=qch m.t.site m.t.seq S.a0,a1:=qcl m.t.site m.t.seq S.a1,a2:=qck m.t.site m.t.seq S.a2,a3:=qcj m.t.site m.t.seq S.a3} log waits m F' w')):=
  (q4d hlw hlc W1.drew).mono λe w' ⟨he,hb'⟩=>⟨he,u.out.later (qa (jcc _ W1).drew hb')⟩
 clear hlw hlc u;go_wp2_with fail
 go_region_with
  (first|(go_at_call 232;with_reducible refine PU.out.mono ?_;rintro e w5 ⟨rfl,D⟩;have k5:=D.out.mem.box.cell 5 _ rfl;have k6:=D.out.mem.box.cell 6 _ rfl;have q5:=D.out.mem.box.free 5 (by simp[qab]);have q6:=D.out.mem.box.free 6 (by simp[qab])))
 all_goals
  have p:Hid (PaE w b lv bm F {S with l:=qbz m.t m.t.ws S.l,a0:=qch m.t.site m.t.seq S.a0,a1:=qcl m.t.site m.t.seq S.a1,a2:=qck m.t.site m.t.seq S.a2,a3:=qcj m.t.site m.t.seq S.a3,lw:=K,lc:=L} log waits m F' ((w5.setCell (AD b 5) (U K)).setCell (AD b 6) (U L))):=D.out.last K L;obtain⟨f,hw6⟩:∃f,(w5.setCell (AD b 5) (U K)).setCell (AD b 6) (U L)=f:=⟨_,rfl⟩;rw[hw6]at p ⊢;clear hw6 D k5 k6 q5 q6 t2 t3 l5 l6
  have FIN9:∀(S9:qe) (f:Wl),Hid (PaE w b lv bm F S9 log waits m F' f)->{S9 with log:=S.log++[m.t]}=vr S m.t->∀(g E:Nat) (y:Wl),(f.drew.alloc (.cells (List.toArray (T9 m.t.site m.t.seq m.t.wall m.t.count m.t.d0 m.t.d1 m.t.d2 m.t.d3 m.wa m.t.ws.length m.wc)) 122)).grownBy y lv.ownBlock->
        y.ownsRow 0 122 9 (.slice (PT g) (log.length+1) E) (log.length+1) (zw log++txC m)->(lv.ownBlock=some g\/g=(f.drew.alloc (.cells (List.toArray (T9 m.t.site m.t.seq m.t.wall m.t.count m.t.d0 m.t.d1 m.t.d2 m.t.d3 m.wa m.t.ws.length m.wc)) 122)).heap.size)->
        Hid (∃r q,zf (y.setCell (AD b 7) (.slice (PT g) (log.length+1) E)) b r bm q (vr S m.t) (log++[m]) waits/\(∀k,jn b r bm q k->jn b lv bm F k\/w.heap.size<=k)/\qc (jn b lv bm F) w (y.setCell (AD b 7) (.slice (PT g) (log.length+1) E))):=λS9 f A e g E y gr ow eg=>by
   have A':=A.out.later (boxed ((jcc _ f).drew) (.cells (List.toArray (T9 m.t.site m.t.seq m.t.wall m.t.count m.t.d0 m.t.d1 m.t.d2 m.t.d3 m.wa m.t.ws.length m.wc)) 122));obtain⟨r,q,n,h2,h3⟩:=A'.append N.out gr ow (eg.imp id (λe=>nk e.symm));rw[<-e];exact⟨r,q,⟨n.box,n.st,n.rlog,n.map,n.nl,n.nm,n.lm,n.lf,n.mf,n.hold⟩,h2,h3⟩
  obtain⟨i0,hi,hz0,hz1,hz2⟩:=info_parts qpi;have AP:=FIN9 _ f p (by simp only[vr];obtain⟨e1,e2⟩:=HLW.out;rw[e1,e2]);obtain⟨t0,t1,t2,t3,t4,t5,t6,t7,t8⟩:=p.out.box.c9;have s7:=p.out.mem.box.cell 7 _ rfl;have f7:=p.out.mem.box.free 7 (by simp[qab]);have own6:f.drew.ownsRow 0 122 9 lv log.length (zw log):=p.out.mem.rlog;have hsb:=p.out.mem.box.lt;have nb:some b≠lv.ownBlock:=λe=>p.out.mem.nl e.symm;have bx:qd f b (qab _ lv bm):=p.out.mem.box;clear FIN9
  go_wp2_with fail
  go_region_law (refine step_append_lies _ rfl (.tmp 53) (.tmp 55) 182 rfl 0 122 i0 (.agg ZA) 9 88 underlying182 hi hz0 hz1 hz2 rfl (by decide) lv log.length (zw log) (by simp[Act.eval]) (own6.alloc _) (AD f.heap.size 0) 1 1 (txC m) (by simp[Act.eval]) rfl (World.news_of_block (heap_alloc_new f.drew (.cells (List.toArray (T9 m.t.site m.t.seq m.t.wall m.t.count m.t.d0 m.t.d1 m.t.d2 m.t.d3 m.wa m.t.ws.length m.wc)) 122))) (qih m) (by decide) (by simp only[maxLen];omega) (by omega) (by simp) _ rfl ?_
                 intro g E y ownE grE egE ltE;have FIN:=AP g E y grE ownE egE;have BE:=((bx.drew).boxed (.cells (List.toArray (T9 m.t.site m.t.seq m.t.wall m.t.count m.t.d0 m.t.d1 m.t.d2 m.t.d3 m.wa m.t.ws.length m.wc)) 122)).grown grE nb;have s0E:=BE.cell 7 _ rfl;have s1E:=BE.free 7 (by simp[qab]))
  all_goals
   go_wp2_with fail
   go_end0;exact⟨rfl,FIN.out⟩
end
section
open _root_.Go.Proofs.Tryz
def qhv {n:Int} (h:inB n 0 3=v) (w:Wl):
 Ca 154 #[U n] w (Rn (.bool v) w):=by
 subst h;by_cases a:0<=n;by_cases b:n<4;have e:Hid (inB n 0 3=true):=by show inB n 0 3=true;rw[jk];omega
 rotate_left;have e:Hid (inB n 0 3=false):=by show inB n 0 3=false;simp[inB];omega
 rotate_left;have e:Hid (inB n 0 3=false):=by show inB n 0 3=false;simp[inB,a]
 all_goals
  go_enter func154,ntmps154;go_wp2;go_ret;exact⟨by rw[e.out];rfl,jcc _ _⟩
def qnl (data:By) (gone:Bool):Bool:=if gone then data.toList.isEmpty else decide ((data.size:Int)<=12)
def qrr {b:Int} {data:By} {gone:Bool} (h:qnl data gone=v) (w:Wl):
 Ca 228 #[.agg #[U b,.string data,.bool gone]] w (Rn (.bool v) w):=by
 subst h;cases gone;by_cases a:(data.size:Int)<=12;have e:Hid (qnl data false=true):=decide_eq_true a;rotate_left;have e:Hid (qnl data false=false):=decide_eq_false a;rotate_left;cases he:data.toList.isEmpty;have e:Hid (qnl data true=false):=he;rotate_left;have e:Hid (qnl data true=true):=he;all_goals
  go_enter func228,ntmps228;go_wp2;go_ret;exact⟨by rw[e.out];rfl,boxed (jcc _ _) _⟩
def qq6 (l:List Wr) (k:Nat):Int:=if k=0 then-1 else (qa7 l (k-1)).key
def qsg {data:By} (h:data.toList.isEmpty=true):data.size=0:=by
 have a:∀(n i:Nat) (r:List UInt8),data.size-i=n->(ByteArray.toList.loop data i r).length=r.length+n:=by
  intro n;induction n with
  |zero=>
   intro i r b;unfold ByteArray.toList.loop;rw[if_neg oe];simp
  |succ n ih=>
   intro i r b;unfold ByteArray.toList.loop;rw[if_pos oe,ih _ _ oe];simp;omega
 have:=a data.size 0 [] oe;have e:=List.isEmpty_iff.1 h;rw[show ByteArray.toList.loop data 0 []=data.toList from rfl,e]at this;simpa using this.symm
variable {l:List Wr}
def q6e {b:Int} {data:By} {gone:Bool} (a:qa7 l k=⟨b,data,gone⟩) (h:b<=qq6 l k):qdd l k=false:=by
 rw[ql6 a];unfold qq6 at h;split at h
 .exact qso oV
 exact qvf oe h
def q1b {b:Int} {data:By} {gone:Bool} (a:qa7 l k=⟨b,data,gone⟩) (h:8<=b):qdd l k=false:=by
 rw[ql6 a];exact qso oV
def q5b {b:Int} {data:By} {gone:Bool} (a:qa7 l k=⟨b,data,gone⟩) (h:qnl data gone=false):qdd l k=false:=by
 rw[ql6 a];cases gone
 .exact qtz (by have:=of_decide_eq_false (show decide ((data.size:Int)<=12)=false from h);omega)
 exact qpo rfl h
def q4o {i:Int} {data:By} {gone:Bool} (c:qa7 l k=⟨i,data,gone⟩) (d:∀j,j<k->qdd l j=true) (b:¬i<=qq6 l k) (e:¬8<=i) (h:qnl data gone=true):qdd l k=true:=by
 rw[ql6 c];have a:¬12<(data.size:Int)/\(gone=false\/data.toList.isEmpty=true):=by
  cases gone
  .exact⟨by have:=of_decide_eq_true (show decide ((data.size:Int)<=12)=true from h);omega,.inl rfl⟩
  have:=qsg h;exact⟨oe,.inr h⟩
 unfold qq6 at b;split at b
 .exact qhr (by rw[jk];omega) (.inl mj) a.1 a.2
 have:=qoy (d (k-1) oe);exact qhr (by rw[jk];omega) (.inr b) a.1 a.2
def qsm (b h R:Nat) (l:List Wr) (w:Wl) (B:qbo w b h l) (D:¬(l.length:Int)<1) (L:¬5<(l.length:Int)):
 Ca 188 #[.slice (some (AD b h)) l.length R] w (Rn (.bool (qad l)) w):=by
 go_enter func188,ntmps188;go_wp2_with fail
 go_loopw [3,16] (λp i wr=>∃(k:Nat) (z:Int),k<=l.length/\z=k/\i=U z/\p=U (qq6 l k)/\(∀j,j<k->qdd l j=true)/\Bw w wr/\qbo wr b h l) (λ_ i _=>l.length-(intOf i).toNat)
 case atStart=>exact⟨0,0,oe,rfl,rfl,rfl,λj E=>oe,jcc _ _,B⟩
 obtain⟨k,z,M,F,rfl,rfl,G,o,C⟩:=hrel;have m:=hd1 G;obtain⟨p,q⟩:∃p,qq6 l k=p:=⟨_,rfl⟩;rw[q];have r:=hd1 q;by_cases f:k<l.length
 .obtain⟨T,V,X⟩:=C k f;have D:z<(l.length:Int):=oe;have N:z.toNat=k:=oe;have O:0<=z:=oe;have H:=hd1 F;obtain⟨⟨A,data,gone⟩,s⟩:∃x,qa7 l k=x:=⟨_,rfl⟩;rw[s]at T V X;have a:=hd1 s;simp only at T V X;have g:=boxed o (.cells #[U A,.string data,.bool gone] 127);have I:=C.later (boxed (jcc _ wr) (.cells #[U A,.string data,.bool gone] 127));by_cases t:A<=p
  .have c:=hd1 (qef f (q6e a.out (by rw[r.out];exact t)));go_wp2_with fail
   go_ret;exact⟨by rw[c.out];rfl,g⟩
  by_cases u:8<=A
  .have c:=hd1 (qef f (q1b a.out u));go_wp2_with fail
   go_ret;exact⟨by rw[c.out];rfl,g⟩
  cases h8:qnl data gone
  .have c:=hd1 (qef f (q5b a.out h8));have n:=hd1 h8;go_wp2_with (go_at_call 228;refine(qrr n.out _).mono ?_;rintro e J ⟨rfl,d⟩)
   go_ret;exact⟨by rw[c.out];rfl,qa g d⟩
  have K:=hd1 (q4o a.out m.out (by rw[r.out];exact t) u h8);have n:=hd1 h8;have y:(wr.alloc (.cells #[U A,.string data,.bool gone] 127)).cell? (AD wr.heap.size 0)=some (U A):=o9;go_wp2_with (go_at_call 228;refine(qrr n.out _).mono ?_;rintro e J ⟨rfl,d⟩;replace y:=cell_later d y)
  go_roundw
  case rel=>exact⟨k+1,z+1,oe,by have:=H.out;omega,oI,by show _=Value.int .i64 (qa7 l (k+1-1)).key;rw[Nat.add_sub_cancel,a.out],qmg m.out K.out,qa g d,I.later d⟩
  simp[intOf];omega
 have e:Hid (qad l=true):=by
  show qad l=true;rw[qvh (λj E=>m.out j oe),jk];omega
 go_wp2;go_ret;exact⟨by rw[e.out];rfl,o⟩
def qog {a:Oa} {i:Nat} {w:Wl} (h:qr w a i l):
 Ca 188 #[.slice a l.length i] w (Rn (.bool (qad l)) w):=by
 by_cases c:(l.length:Int)<1
 .have e:Hid (qad l=false):=by
   show qad l=false
   have:inB l.length 1 5=false:=oV;simp[qad,this]
  go_enter func188,ntmps188;go_wp2;go_ret;exact⟨by rw[e.out];rfl,jcc _ _⟩
 by_cases d:5<(l.length:Int)
 .have e:Hid (qad l=false):=by
   show qad l=false
   have:inB l.length 1 5=false:=oV;simp[qad,this]
  go_enter func188,ntmps188;go_wp2;go_ret;exact⟨by rw[e.out];rfl,jcc _ _⟩
 obtain rfl|⟨b,f,rfl,g⟩:=h.held
 .simp at c
 exact qsm b f i l w g c d
end
section
open Tryz
def qw6 (a0 a1 a2 a3:Int) (w:Wl):
 Ca 155 #[.agg #[U a0,U a1,U a2,U a3]] w (Rn (.bool (jb a0 a1 a2 a3)) w):=by
 have a:∀w,(Instr.index 113 (.agg #[U a0,U a1,U a2,U a3]) (U 0)).run prog w=.ok (U a0) w:=λ_=>oh
 have b:∀w,(Instr.index 113 (.agg #[U a0,U a1,U a2,U a3]) (U 1)).run prog w=.ok (U a1) w:=λ_=>oh
 have c:∀w,(Instr.index 113 (.agg #[U a0,U a1,U a2,U a3]) (U 2)).run prog w=.ok (U a2) w:=λ_=>oh
 have d:∀w,(Instr.index 113 (.agg #[U a0,U a1,U a2,U a3]) (U 3)).run prog w=.ok (U a3) w:=λ_=>oh
 by_cases f:a0<0;have e:jb a0 a1 a2 a3=false:=by simp[jb,qi];omega
 rw[e];go_enter func155,ntmps155;go_wp2;refine wp_loop_rounds 5 ?_;rotate_left;by_cases g:1099511627776<a0;have e:jb a0 a1 a2 a3=false:=by simp[jb,qi];omega
 rw[e];go_enter func155,ntmps155;go_wp2;refine wp_loop_rounds 5 ?_;rotate_left;by_cases m:a1<0;have e:jb a0 a1 a2 a3=false:=by simp[jb,qi];omega
 rw[e];go_enter func155,ntmps155;go_wp2;refine wp_loop_rounds 5 ?_;rw[rounds_succ];go_wp2;rotate_left;by_cases h:1099511627776<a1;have e:jb a0 a1 a2 a3=false:=by simp[jb,qi];omega
 rw[e];go_enter func155,ntmps155;go_wp2;refine wp_loop_rounds 5 ?_;rw[rounds_succ];go_wp2;rotate_left;by_cases i:a2<0;have e:jb a0 a1 a2 a3=false:=by simp[jb,qi];omega
 rw[e];go_enter func155,ntmps155;go_wp2;refine wp_loop_rounds 5 ?_;rw[rounds_succ];go_wp2;rw[rounds_succ];go_wp2;rotate_left;by_cases j:1099511627776<a2;have e:jb a0 a1 a2 a3=false:=by simp[jb,qi];omega
 rw[e];go_enter func155,ntmps155;go_wp2;refine wp_loop_rounds 5 ?_;rw[rounds_succ];go_wp2;rw[rounds_succ];go_wp2;rotate_left;by_cases k:a3<0;have e:jb a0 a1 a2 a3=false:=by simp[jb,qi];omega
 rw[e];go_enter func155,ntmps155;go_wp2;refine wp_loop_rounds 5 ?_;rw[rounds_succ];go_wp2;rw[rounds_succ];go_wp2;rw[rounds_succ];go_wp2;rotate_left;by_cases l:1099511627776<a3;have e:jb a0 a1 a2 a3=false:=by simp[jb,qi];omega
 rw[e];go_enter func155,ntmps155;go_wp2;refine wp_loop_rounds 5 ?_;rw[rounds_succ];go_wp2;rw[rounds_succ];go_wp2;rw[rounds_succ];go_wp2;rotate_left;have e:jb a0 a1 a2 a3=true:=by simp[jb,qi];omega
 rw[e];go_enter func155,ntmps155;go_wp2;refine wp_loop_rounds 5 ?_;rw[rounds_succ];go_wp2;rw[rounds_succ];go_wp2;rw[rounds_succ];go_wp2;rw[rounds_succ];go_wp2;all_goals
  rw[rounds_succ];go_wp2;go_ret;exact⟨rfl,by repeat (first|exact jcc _ _|apply jy|apply boxed)⟩
end
open _root_.Go.Proofs.Tryz
def q6t {x c:Int} (h:(qi x&&qi c)=v) (w:Wl):
 Ca 229 #[.agg #[U x,U c]] w (Rn (.bool v) w):=by
 subst h;exact qe6 x c w
def qh7 {a0 a1 a2 a3:Int} (h:jb a0 a1 a2 a3=v) (w:Wl):
 Ca 155 #[.agg #[U a0,U a1,U a2,U a3]] w (Rn (.bool v) w):=by
 subst h;exact qw6 a0 a1 a2 a3 w
def qux (j b wall i d f g h:Int) (a:Oa) (A:Nat) (l:List Wr) (w:Wl) (D:qr w a A l):
 Ca 199 #[.agg (List.toArray (T9 j b wall i d f g h a l.length A))] w (Rn (.bool (jt j b wall i d f g h l)) w):=by
 have I:=qb.one;have y:=D.later (boxed (jcc _ w) (.cells (List.toArray (T9 j b wall i d f g h a l.length A)) 122));clear D;have n:(w.nu (List.toArray (T9 j b wall i d f g h a l.length A)) 122).cell? (AD w.heap.size 0)=some (U j):=o9;have o:(w.nu (List.toArray (T9 j b wall i d f g h a l.length A)) 122).cell? (AD w.heap.size 1)=some (U b):=o9;have p:(w.nu (List.toArray (T9 j b wall i d f g h a l.length A)) 122).cell? (AD w.heap.size 2)=some (U wall):=o9;have q:(w.nu (List.toArray (T9 j b wall i d f g h a l.length A)) 122).cell? (AD w.heap.size 3)=some (U i):=o9;have r:(w.nu (List.toArray (T9 j b wall i d f g h a l.length A)) 122).cell? (AD w.heap.size 4)=some (U d):=o9;have s:(w.nu (List.toArray (T9 j b wall i d f g h a l.length A)) 122).cell? (AD w.heap.size 5)=some (U f):=o9;have t:(w.nu (List.toArray (T9 j b wall i d f g h a l.length A)) 122).cell? (AD w.heap.size 6)=some (U g):=o9;have u:(w.nu (List.toArray (T9 j b wall i d f g h a l.length A)) 122).cell? (AD w.heap.size 7)=some (U h):=o9;have x:(w.nu (List.toArray (T9 j b wall i d f g h a l.length A)) 122).cell? (AD w.heap.size 8)=some (.slice a l.length A):=o9;cases p1:inB j 0 3
 .have e:Hid (jt j b wall i d f g h l=false):=by show jt j b wall i d f g h l=false;simp only[jt,p1,Bool.false_and]
  have m:=hd1 p1;clear p1;go_enter func199,ntmps199;go_wp2_with (go_at_call 154;refine(qhv m.out _).mono ?_;rintro e C ⟨rfl,c⟩;replace n:=cell_later c n;replace o:=cell_later c o;replace p:=cell_later c p;replace q:=cell_later c q;replace r:=cell_later c r;replace s:=cell_later c s;replace t:=cell_later c t;replace u:=cell_later c u;replace x:=cell_later c x;replace y:=y.later c)
  go_ret;exact⟨by rw[e.out];rfl,qa (boxed (jcc _ _) _) c⟩
 have m:=hd1 p1;by_cases s1:b<1
 .have e:Hid (jt j b wall i d f g h l=false):=by
   have p2:inB b 1 1099511627776=false:=oV;show jt j b wall i d f g h l=false;simp only[jt,p2,Bool.and_false,Bool.false_and]
  clear p1;go_enter func199,ntmps199;go_wp2_with (go_at_call 154;refine(qhv m.out _).mono ?_;rintro e C ⟨rfl,c⟩;replace n:=cell_later c n;replace o:=cell_later c o;replace p:=cell_later c p;replace q:=cell_later c q;replace r:=cell_later c r;replace s:=cell_later c s;replace t:=cell_later c t;replace u:=cell_later c u;replace x:=cell_later c x;replace y:=y.later c)
  go_ret;exact⟨by rw[e.out];rfl,qa (boxed (jcc _ _) _) c⟩
 by_cases s2:1099511627776<b
 .have e:Hid (jt j b wall i d f g h l=false):=by
   have p2:inB b 1 1099511627776=false:=oV;show jt j b wall i d f g h l=false;simp only[jt,p2,Bool.and_false,Bool.false_and]
  clear p1;go_enter func199,ntmps199;go_wp2_with (go_at_call 154;refine(qhv m.out _).mono ?_;rintro e C ⟨rfl,c⟩;replace n:=cell_later c n;replace o:=cell_later c o;replace p:=cell_later c p;replace q:=cell_later c q;replace r:=cell_later c r;replace s:=cell_later c s;replace t:=cell_later c t;replace u:=cell_later c u;replace x:=cell_later c x;replace y:=y.later c)
  go_ret;exact⟨by rw[e.out];rfl,qa (boxed (jcc _ _) _) c⟩
 have p2:inB b 1 1099511627776=true:=by rw[jk];omega
 have z:=hd1 p2;clear p2;clear p1;go_enter func199,ntmps199;go_wp2_with (go_at_call 154;refine(qhv m.out _).mono ?_;rintro e C ⟨rfl,c⟩;replace n:=cell_later c n;replace o:=cell_later c o;replace p:=cell_later c p;replace q:=cell_later c q;replace r:=cell_later c r;replace s:=cell_later c s;replace t:=cell_later c t;replace u:=cell_later c u;replace x:=cell_later c x;replace y:=y.later c)
 have E:=qa (boxed (jcc _ _) _) c;clear c;replace n:=qb.cell n;replace o:=qb.cell o;replace p:=qb.cell p;replace q:=qb.cell q;replace r:=qb.cell r;replace s:=qb.cell s;replace t:=qb.cell t;replace u:=qb.cell u;replace x:=qb.cell x;cases p3:(qi wall&&qi i);have e:Hid (jt j b wall i d f g h l=false):=by show jt j b wall i d f g h l=false;simp only[jt,p3,Bool.and_false,Bool.false_and]
 rotate_left;cases p4:jb d f g h;have e:Hid (jt j b wall i d f g h l=false):=by show jt j b wall i d f g h l=false;simp only[jt,p4,Bool.and_false,Bool.false_and]
 rotate_left;have F:=jk.1 m.out;have G:j=0\/j=1\/j=2\/j=3:=oe;clear F;obtain rfl|rfl|rfl|rfl:=G;by_cases k:d=b-1;have B:(d==b-1)=true:=by simp[k]
 have e:Hid (jt 0 b wall i d f g h l=qad l):=by show jt 0 b wall i d f g h l=qad l;simp only[jt,m.out,z.out,p3,p4,Bool.and_true,Bool.true_and,qp];simp[k]
 clear k;rotate_left;have B:(d==b-1)=false:=by simp[k]
 have e:Hid (jt 0 b wall i d f g h l=false):=by show jt 0 b wall i d f g h l=false;simp only[jt,m.out,z.out,p3,p4,Bool.and_true,Bool.true_and,qp];simp[k]
 clear k;rotate_left;by_cases k:f=b-1;have B:(f==b-1)=true:=by simp[k]
 have e:Hid (jt 1 b wall i d f g h l=qad l):=by show jt 1 b wall i d f g h l=qad l;simp only[jt,m.out,z.out,p3,p4,Bool.and_true,Bool.true_and,qp];simp[k]
 clear k;rotate_left;have B:(f==b-1)=false:=by simp[k]
 have e:Hid (jt 1 b wall i d f g h l=false):=by show jt 1 b wall i d f g h l=false;simp only[jt,m.out,z.out,p3,p4,Bool.and_true,Bool.true_and,qp];simp[k]
 clear k;rotate_left;by_cases k:g=b-1;have B:(g==b-1)=true:=by simp[k]
 have e:Hid (jt 2 b wall i d f g h l=qad l):=by show jt 2 b wall i d f g h l=qad l;simp only[jt,m.out,z.out,p3,p4,Bool.and_true,Bool.true_and,qp];simp[k]
 clear k;rotate_left;have B:(g==b-1)=false:=by simp[k]
 have e:Hid (jt 2 b wall i d f g h l=false):=by show jt 2 b wall i d f g h l=false;simp only[jt,m.out,z.out,p3,p4,Bool.and_true,Bool.true_and,qp];simp[k]
 clear k;rotate_left;by_cases k:h=b-1;have B:(h==b-1)=true:=by simp[k]
 have e:Hid (jt 3 b wall i d f g h l=qad l):=by show jt 3 b wall i d f g h l=qad l;simp only[jt,m.out,z.out,p3,p4,Bool.and_true,Bool.true_and,qp];simp[k]
 clear k;rotate_left;have B:(h==b-1)=false:=by simp[k]
 have e:Hid (jt 3 b wall i d f g h l=false):=by show jt 3 b wall i d f g h l=false;simp only[jt,m.out,z.out,p3,p4,Bool.and_true,Bool.true_and,qp];simp[k]
 clear k;all_goals
  refine wrl ?_;repeat (go_big_quiet_step (first|(go_at_call 229;with_reducible exact qg (q6t p3 _))|(go_at_call 155;with_reducible exact qg (qh7 p4 _))|(go_at_call 188;exact qg (qog (qr.later (qb.below _) y)))))
  refine wpQuiet_nil ?_;rintro J ⟨⟨_,H⟩,rfl⟩;go_wp2;go_ret;exact⟨by rw[e.out];rfl,qa E H⟩
def qex {b c wall d e f g i:Int} {a:Oa} {k:Nat} {l:List Wr} {w:Wl} (j:qr w a k l) (h:jt b c wall d e f g i l=v):
 Ca 199 #[.agg (List.toArray (T9 b c wall d e f g i a l.length k))] w (Rn (.bool v) w):=by
 subst h;exact qux b c wall d e f g i a k l w j
end Go.Proofs.YtbfkeoagmajcpaaGreatDoor
