import Derived.Test.YtbfkeoagmajcpaaGreatDoorSiteI
import Derived.Lib.FieldsP
import Derived.Lib.ParseIntB
import Derived.Lib.ItoaNum
import Derived.Lib.Join
import Derived.Lib.IndexMore
set_option linter.defProp false
namespace Go.Proofs.YtbfkeoagmajcpaaGreatDoor
variable {W u:WoS} {j:Nat}
section
open Go.RowKit
abbrev bya (l:List UInt8):By:=⟨l.toArray⟩
def qbw (s:By):Option Int:=
 match Lib.parseIntB 64 s.data.toList with
 |.ok v=>if bya (Lib.itoa v)=s then some v else none
 |_=>none
def qb0:List By->Option (List Int)
 |[]=>some []
 |s::l=>match qbw s with
  |none=>none
  |some v=>match qb0 l with
   |none=>none
   |some r=>some (v::r)
def ju (m:Nat) (l:List By):Option (List Int):=if l.length=m then qb0 l else none
def qv (l:List Int):List UInt8:=Lib.join (l.map Lib.itoa) [32]
abbrev ye (k:Int) (n:Nat):Prop:=0<=k/\k<(n:Int)
def qc9:List (List UInt8):=[[97,98,111,114,116],[97,115,107],[98,101,103,105,110],[99,97,108,109],[99,108,105,101,110,116],[99,111,109,109,105,116],[100,101,108,105,118,101,114],[100,114,111,112],[103,111,101,115],[104,101,108,112],[108,111,115,101],[109,97,110,121],[109,111,118,101],[114,101,97,100],[115,105,116,101],[115,119,101,101,112],[116,119,105,99,101],[119,111,114,108,100],[119,114,105,116,101]]
def qn (i:Nat):List UInt8:=qc9.getD i []
def qqi (i:Nat):Nat:=[1,2,1,0,1,1,1,2,2,0,1,0,2,2,1,1,1,2,2].getD i 0
def qgx (W:WoS) (k:Nat):List UInt8:=if (wcT W k).seq=0 then [110,111,116,104,105,110,103]else qv [(wcT W k).site,(wcT W k).seq,(wcT W k).wall,(wcT W k).count]++[58,32]++qv [(wcT W k).d0,(wcT W k).d1,(wcT W k).d2,(wcT W k).d3]
def qsi (W:WoS) (k:Nat):List UInt8:=qv [(W.at_ k:Int)]++[44,32]++qv [(W.ses k).p0,(W.ses k).p1,(W.ses k).p2,(W.ses k).p3]++if (W.ses k).opn=true then [44,32]++qv [(W.ses k).s0,(W.ses k).s1,(W.ses k).s2,(W.ses k).s3]else []
def qc0 (S:qe):List (List UInt8):=(List.range 8).map λ(i:Nat)=>(qdf S.a0 S.a1 S.a2 S.a3 S.l i).data.toList
def qmb (S:qe):List UInt8:=qv [S.a0,S.a1,S.a2,S.a3]++[44,32]++qv [(S.waits.length:Int),(S.l.length:Int)]++[44,32]++Lib.join (qc0 S) [32]
def qaa (i:Nat) (W:WoS) (l:List Int) (d:By) (W':WoS) (er:Int) (told:List UInt8):Prop:=
 match i,l with
 |0,[k]=>told=qn 0/\if ye k W.c then W'=vf W k.toNat (qhh (W.ses k.toNat))/\er=qi5 (W.ses k.toNat)else W'=W/\er=2
 |1,[k,o]=>told=qn 1/\if ye k W.n/\ye o W.n/\k≠o then W'=qme W k.toNat o.toNat/\er=0 else W'=W/\er=2
 |2,[k]=>told=qn 2/\if ye k W.c then W'=vf W k.toNat (qhd (W.S (W.at_ k.toNat)) (W.ses k.toNat))/\er=qhl (W.S (W.at_ k.toNat)) (W.ses k.toNat)else W'=W/\er=2
 |3,[]=>told=qn 3/\qg9 W W'/\er=0
 |4,[k]=>W'=W/\if ye k W.c then told=qsi W k.toNat/\er=0 else told=[]/\er=2
 |5,[k]=>if ye k W.c then told=qgx W k.toNat/\W'=wcW W k.toNat/\er=wcE W k.toNat else told=[]/\W'=W/\er=2
 |6,[k]=>told=qn 6/\if ye k W.net.length then zy W k.toNat W'/\er=0 else W'=W/\er=2
 |7,[k,key]=>told=qn 7/\if ye k W.c then W'=vf W k.toNat (qd2 (W.ses k.toNat) ⟨key,⟨#[]⟩,true⟩)/\er=qaj (W.ses k.toNat) ⟨key,⟨#[]⟩,true⟩else W'=W/\er=2
 |8,[k,y]=>told=qn 8/\if ye k W.n/\0<=y/\y<=1099511627776 then W'=qm8 W k.toNat y/\er=0 else W'=W/\er=2
 |9,[]=>told=Lib.join qc9 [32]/\W'=W/\er=0
 |10,[k]=>told=qn 10/\if ye k W.net.length then W'=qai W k.toNat/\er=0 else W'=W/\er=2
 |11,[]=>told=qv [(W.net.length:Int),W.lost]/\W'=W/\er=0
 |12,[k,tj]=>told=qn 12/\if ye k W.c/\ye tj W.n then W'=qhx W k.toNat tj.toNat/\er=qll W k.toNat else W'=W/\er=2
 |13,[k,key]=>W'=W/\if ye k W.c then told=[105,115,32]++(vi (W.S (W.at_ k.toNat)) (W.ses k.toNat) key).1.data.toList/\er=(vi (W.S (W.at_ k.toNat)) (W.ses k.toNat) key).2 else told=[]/\er=2
 |14,[k]=>W'=W/\if ye k W.n then told=qmb (W.S k.toNat)/\er=0 else told=[]/\er=2
 |15,[k]=>told=qn 15/\if ye k W.n then W'=qo2 W k.toNat/\er=0 else W'=W/\er=2
 |16,[k]=>told=qn 16/\if ye k W.net.length then (∃g,W.net[k.toNat]?=some g/\W'=zk W g)/\er=0 else W'=W/\er=2
 |17,[n,c]=>told=qn 17/\if (1<=n/\n<=4)/\(0<=c/\c<=6)then W'=qcb n.toNat c.toNat/\er=0 else W'=W/\er=2
 |18,[k,key]=>told=qn 18/\if ye k W.c then W'=vf W k.toNat (qd2 (W.ses k.toNat) ⟨key,d,false⟩)/\er=qaj (W.ses k.toNat) ⟨key,d,false⟩else W'=W/\er=2
 |_,_=>False
def qc2 (i:Nat) (W:WoS) (rest:List By) (W':WoS) (er:Int) (told:List UInt8):Prop:=
 match (if i=18 then (if rest.length=3 then ju 2 (rest.take 2)else none)else ju (qqi i) rest)with
 |none=>W'=W/\er=3/\told=[]
 |some l=>qaa i W l (rest.getD 2 ⟨#[]⟩) W' er told
def qa9 (s:By):List By:=Lib.goFieldsP (λr=>decide (r=32)) s
def qgt (n:Int):List UInt8:=[101,114,114,111,114,32]++Lib.itoa n
def qas (W:WoS) (line:By) (W':WoS) (told:List UInt8):Prop:=
 match qa9 line with
 |[]=>W'=W/\told=[111,107]
 |x::rest=>match qc9.idxOf? x.data.toList with
  |none=>W'=W/\told=qgt 3
  |some i=>∃er t,qc2 i W rest W' er t/\told=if er=0 then t else qgt er
inductive qd8:WoS->List By->List UInt8->WoS->Prop
 |nil {W:WoS}:qd8 W [] [] W
 |snoc {W W1 W2:WoS} {l:List By} {out told:List UInt8} {x:By}:qd8 W l out W1->qas W1 x W2 told->qd8 W (l++[x]) (out++told++[10]) W2
def qaa.det {i:Nat} {W:WoS} {l:List Int} {d:By} {A B:WoS} {e f:Int} {s t:List UInt8} (h:qaa i W l d A e s) (k:qaa i W l d B f t):A=B/\e=f/\s=t:=by
 unfold qaa at h k;split at h<;>simp only at k;case h_4=>exact⟨h.2.1.det k.2.1,h.2.2.trans k.2.2.symm,h.1.trans k.1.symm⟩
 case h_7=>
  refine(λ(x:A=B/\e=f)=>⟨x.1,x.2,h.1.trans k.1.symm⟩) ?_;replace h:=h.2;replace k:=k.2;split at h<;>rename_i q
  .rw[if_pos q]at k;exact⟨h.1.det k.1,h.2.trans k.2.symm⟩
  rw[if_neg q]at k;exact⟨h.1.trans k.1.symm,h.2.trans k.2.symm⟩
 case h_17=>
  refine(λ(x:A=B/\e=f)=>⟨x.1,x.2,h.1.trans k.1.symm⟩) ?_;replace h:=h.2;replace k:=k.2;split at h<;>rename_i q
  .rw[if_pos q]at k;obtain⟨⟨g,j,rfl⟩,b⟩:=h;obtain⟨⟨o,c,rfl⟩,a⟩:=k;rw[j]at c;injection c with c;rw[c,b,a];exact⟨rfl,rfl⟩
  rw[if_neg q]at k;exact⟨h.1.trans k.1.symm,h.2.trans k.2.symm⟩
 all_goals first
  |exact h.elim
  |(obtain⟨m,b⟩:=h;obtain⟨n,a⟩:=k;split at b<;>rename_i q<;>first|rw[if_pos q]at a|rw[if_neg q]at a)<;>simp only[m,n,b.1,b.2,a.1,a.2,and_self]
  |(split at h<;>rename_i q<;>first|rw[if_pos q]at k|rw[if_neg q]at k)<;>simp only[h.1,k.1,h.2.1,h.2.2,k.2.1,k.2.2,and_self]
  |simp only[h.1,k.1,h.2.1,h.2.2,k.2.1,k.2.2,and_self]
def qc2.det {i:Nat} {W:WoS} {rest:List By} {A B:WoS} {e f:Int} {s t:List UInt8} (h:qc2 i W rest A e s) (k:qc2 i W rest B f t):A=B/\e=f/\s=t:=by
 unfold qc2 at h k;split at h<;>rename_i q<;>rw[q]at k
 .exact⟨h.1.trans k.1.symm,h.2.1.trans k.2.1.symm,h.2.2.trans k.2.2.symm⟩
 exact h.det k
def qas.det {W:WoS} {a:By} {A B:WoS} {s t:List UInt8} (h:qas W a A s) (k:qas W a B t):A=B/\s=t:=by
 unfold qas at h k;split at h<;>rename_i q<;>rw[q]at k
 .exact⟨h.1.trans k.1.symm,h.2.trans k.2.symm⟩
 split at h<;>rename_i r<;>simp only[r]at k
 .exact⟨h.1.trans k.1.symm,h.2.trans k.2.symm⟩
 obtain⟨e,x,b,rfl⟩:=h;obtain⟨f,y,c,rfl⟩:=k;obtain⟨rfl,rfl,rfl⟩:=b.det c;exact⟨rfl,rfl⟩
def qd8.det {W A:WoS} {l:List By} {s:List UInt8} (h:qd8 W l s A):∀{B:WoS} {t:List UInt8},qd8 W l t B->A=B/\s=t:=by
 induction h with
 |nil=>
  intro B t k;generalize a:([]:List By)=l at k;cases k with
  |nil=>exact⟨rfl,rfl⟩
  |snoc=>simp at a
 |@snoc W1 W2 l out told x h1 h2 ih=>
  intro B t k;generalize a:l++[x]=m at k;cases k with
  |nil=>simp at a
  |snoc k1 k2=>
   obtain⟨b,c⟩:=List.append_inj' a rfl;cases c;subst b;obtain⟨rfl,rfl⟩:=ih k1;obtain⟨rfl,rfl⟩:=h2.det k2;exact⟨rfl,rfl⟩
def qgr (i:Nat) (W:WoS) (l:List Int) (d:By) (w:Wl) (b:Nat) (G:Np) (e:Ending) (w':Wl):Prop:=
 ∃W' er,qaa i W l d W' er (qn i)/\e=.returned (jc er)/\vh w b G W' w'
variable {k:Int}
section
variable {b:Nat} {G:Np}
def zq {n:Nat} (h:ye k n):∃i:Nat,k=i/\i<n/\k.toNat=i:=⟨k.toNat,by have:=h.1;omega,by have:=h.1;have:=h.2;omega,rfl⟩
def q4g (k:Int) (w:Wl) (h:PW w b G W):Ca 79 #[PP b,U k] w (qgr 0 W [k] ⟨#[]⟩ w b G):=by
 by_cases a:ye k W.c
 .obtain⟨i,rfl,m,e⟩:=zq a;exact(q36 w h m).mono λ_ _ ⟨d,f⟩=>⟨_,_,⟨rfl,by rw[if_pos a];exact⟨rfl,rfl⟩⟩,d,f⟩
 exact(qwi k w h a).mono λ_ _ ⟨d,f⟩=>⟨W,2,⟨rfl,by rw[if_neg a];exact⟨rfl,rfl⟩⟩,d,vh.same h f⟩
def q5d (k:Int) (w:Wl) (h:PW w b G W) (g:PlI j W):Ca 83 #[PP b,U k] w (qgr 2 W [k] ⟨#[]⟩ w b G):=by
 by_cases a:ye k W.c
 .obtain⟨i,rfl,m,e⟩:=zq a;exact(q4w w h g.wf m).mono λ_ _ ⟨d,f⟩=>⟨_,_,⟨rfl,by rw[if_pos a];exact⟨rfl,rfl⟩⟩,d,f⟩
 exact(qt8 k w h a).mono λ_ _ ⟨d,f⟩=>⟨W,2,⟨rfl,by rw[if_neg a];exact⟨rfl,rfl⟩⟩,d,vh.same h f⟩
def ja6 (k o:Int) (w:Wl) (h:PW w b G W) (l:PlI j W):Ca 81 #[PP b,U k,U o] w (qgr 1 W [k,o] ⟨#[]⟩ w b G):=by
 by_cases d:ye k W.n
 .obtain⟨i,rfl,s,e⟩:=zq d;by_cases f:ye o W.n
  .obtain⟨m,rfl,p,r⟩:=zq f;by_cases g:i=m
   .subst g;exact(qv9 w h s).mono λ_ _ ⟨a,c⟩=>⟨W,2,⟨rfl,by rw[if_neg (λq=>q.2.2 rfl)];exact⟨rfl,rfl⟩⟩,a,c⟩
   exact(q7k w h l.wf s p g).mono λ_ _ ⟨a,c⟩=>⟨_,_,⟨rfl,by rw[if_pos ⟨d,f,oe⟩];exact⟨rfl,rfl⟩⟩,a,c⟩
  exact(qxx o w h s f).mono λ_ _ ⟨a,c⟩=>⟨W,2,⟨rfl,by rw[if_neg (λq=>f q.2.1)];exact⟨rfl,rfl⟩⟩,a,vh.same h c⟩
 exact(q2g k o w h d).mono λ_ _ ⟨a,c⟩=>⟨W,2,⟨rfl,by rw[if_neg (λq=>d q.1)];exact⟨rfl,rfl⟩⟩,a,vh.same h c⟩
def qi2 (a:ye k W.net.length):∃(i:Nat) (g:GrS),k=i/\k.toNat=i/\W.net[i]?=some g:=by
 obtain⟨i,e,d,c⟩:=zq a;exact⟨i,W.net[i],e,c,jcg d⟩
def qyp (k:Int) (w:Wl) (h:PW w b G W) (f:PlI j W):Ca 89 #[PP b,U k] w (qgr 6 W [k] ⟨#[]⟩ w b G):=by
 by_cases a:ye k W.net.length
 .obtain⟨i,g,rfl,e,l⟩:=qi2 a;exact(qp6 w h f.wf l).mono λ_ _ ⟨c,o,d,m⟩=>⟨o,0,⟨rfl,by rw[if_pos a];exact⟨d.out,rfl⟩⟩,c,m⟩
 exact(qo9 k w h a).mono λ_ _ ⟨c,d⟩=>⟨W,2,⟨rfl,by rw[if_neg a];exact⟨rfl,rfl⟩⟩,c,vh.same h d⟩
def q99 (k:Int) (w:Wl) (h:PW w b G W) (f:PlI j W):Ca 95 #[PP b,U k] w (qgr 10 W [k] ⟨#[]⟩ w b G):=by
 by_cases a:ye k W.net.length
 .obtain⟨i,g,rfl,e,l⟩:=qi2 a;exact(q88 w h f.wf.net l).mono λ_ _ ⟨c,d⟩=>⟨_,0,⟨rfl,by rw[if_pos a];exact⟨rfl,rfl⟩⟩,c,d⟩
 exact(qud k w h a).mono λ_ _ ⟨c,d⟩=>⟨W,2,⟨rfl,by rw[if_neg a];exact⟨rfl,rfl⟩⟩,c,vh.same h d⟩
def q50 (k:Int) (w:Wl) (h:PW w b G W):Ca 102 #[PP b,U k] w (qgr 16 W [k] ⟨#[]⟩ w b G):=by
 by_cases a:ye k W.net.length
 .obtain⟨i,g,rfl,e,f⟩:=qi2 a;exact(q5x w h f).mono λ_ _ ⟨c,d⟩=>⟨_,0,⟨rfl,by rw[if_pos a];exact⟨⟨g,f,rfl⟩,rfl⟩⟩,c,d⟩
 exact(qss k w h a).mono λ_ _ ⟨c,d⟩=>⟨W,2,⟨rfl,by rw[if_neg a];exact⟨rfl,rfl⟩⟩,c,vh.same h d⟩
def q39 (k:Int) (w:Wl) (h:PW w b G W) (f:PlI j W):Ca 101 #[PP b,U k] w (qgr 15 W [k] ⟨#[]⟩ w b G):=by
 by_cases a:ye k W.n
 .obtain⟨i,rfl,m,e⟩:=zq a;exact(q5f w h f.wf m).mono λ_ _ ⟨c,d⟩=>⟨_,0,⟨rfl,by rw[if_pos a];exact⟨rfl,rfl⟩⟩,c,d⟩
 exact(qt6 k w h a).mono λ_ _ ⟨c,d⟩=>⟨W,2,⟨rfl,by rw[if_neg a];exact⟨rfl,rfl⟩⟩,c,vh.same h d⟩
def q9o (k y:Int) (w:Wl) (h:PW w b G W) (g:PlI j W):Ca 91 #[PP b,U k,U y] w (qgr 8 W [k,y] ⟨#[]⟩ w b G):=by
 by_cases f:ye k W.n
 .obtain⟨i,rfl,m,e⟩:=zq f;by_cases a:0<=y/\y<=1099511627776
  .exact(q8u w h m a.1 a.2 (g.wl i m).1 (g.wl i m).2).mono λ_ _ ⟨c,d⟩=>⟨_,0,⟨rfl,by rw[if_pos ⟨f,a⟩];exact⟨rfl,rfl⟩⟩,c,d⟩
  exact(qvi y w h m a).mono λ_ _ ⟨c,d⟩=>⟨W,2,⟨rfl,by rw[if_neg (λq=>a q.2)];exact⟨rfl,rfl⟩⟩,c,vh.same h d⟩
 exact(qy6 k y w h f).mono λ_ _ ⟨c,d⟩=>⟨W,2,⟨rfl,by rw[if_neg (λq=>f q.1)];exact⟨rfl,rfl⟩⟩,c,vh.same h d⟩
def q9j (k y:Int) (w:Wl) (h:PW w b G W):Ca 98 #[PP b,U k,U y] w (qgr 12 W [k,y] ⟨#[]⟩ w b G):=by
 by_cases f:ye k W.c
 .obtain⟨i,rfl,r,e⟩:=zq f;by_cases g:ye y W.n
  .obtain⟨m,rfl,l,o⟩:=zq g;exact(q8o w h r l).mono λ_ _ ⟨a,d⟩=>⟨_,_,⟨rfl,by rw[if_pos ⟨f,g⟩];exact⟨rfl,rfl⟩⟩,a,d⟩
  exact(qve y w h r g).mono λ_ _ ⟨a,d⟩=>⟨W,2,⟨rfl,by rw[if_neg (λq=>g q.2)];exact⟨rfl,rfl⟩⟩,a,vh.same h d⟩
 exact(qyb k y w h f).mono λ_ _ ⟨a,d⟩=>⟨W,2,⟨rfl,by rw[if_neg (λq=>f q.1)];exact⟨rfl,rfl⟩⟩,a,vh.same h d⟩
def q9z (k m:Int) (w:Wl) (h:PW w b G W):Ca 90 #[PP b,U k,.agg #[U m,.string ⟨#[]⟩,.bool true]] w (qgr 7 W [k,m] ⟨#[]⟩ w b G):=by
 by_cases a:ye k W.c
 .obtain⟨i,rfl,o,e⟩:=zq a;exact(qv8 m ⟨#[]⟩ true w h o).mono λ_ _ ⟨d,f⟩=>⟨_,_,⟨rfl,by rw[if_pos a];exact⟨rfl,rfl⟩⟩,d,f⟩
 exact(qm5 k m ⟨#[]⟩ true w h a).mono λ_ _ ⟨d,f⟩=>⟨W,2,⟨rfl,by rw[if_neg a];exact⟨rfl,rfl⟩⟩,d,vh.same h f⟩
def q48 (k m:Int) (d:By) (w:Wl) (h:PW w b G W):Ca 90 #[PP b,U k,.agg #[U m,.string d,.bool false]] w (qgr 18 W [k,m] d w b G):=by
 by_cases a:ye k W.c
 .obtain⟨i,rfl,o,e⟩:=zq a;exact(qv8 m d false w h o).mono λ_ _ ⟨f,g⟩=>⟨_,_,⟨rfl,by rw[if_pos a];exact⟨rfl,rfl⟩⟩,f,g⟩
 exact(qm5 k m d false w h a).mono λ_ _ ⟨f,g⟩=>⟨W,2,⟨rfl,by rw[if_neg a];exact⟨rfl,rfl⟩⟩,f,vh.same h g⟩
end
end
section
open Go.RowKit
section
def PlI.bring (a:qaf W u):PlI j W->PlI j u:=by
 induction a with
 |none _=>exact id
 |step _ hd _ ih=>exact λh=>ih (h.deliver hd)
def PlI.asks {k m:Nat} (b:qdo k m W u):PlI j W->k<W.n->m<=W.n->PlI j u:=by
 induction b with
 |zero=>exact λh _ _=>h
 |self _ _ ih=>exact λh a c=>ih h a oe
 |@ask W W1 u m h1 hne hb ih=>
  intro h a c;have d:=ih h a oe;have e:=h1.keep.n;exact PlI.bring hb (d.send (g:=⟨m,.ask k (W1.S k).a0 (W1.S k).a1 (W1.S k).a2 (W1.S k).a3⟩) (by show m<W1.n;omega) (by show 0<=(k:Int)/\(k:Int)<(W1.n:Int);omega))
def PlI.round {m:Nat} (a:qc1 m W u):PlI j W->m<=W.n->PlI j u:=by
 induction a with
 |zero=>exact λh _=>h
 |@next W W1 u m h1 h2 ih=>
  intro h b;have c:=h1.keep.n;exact PlI.asks h2 (ih h oe) oe (jcd _)
def PlI.calm (h:PlI j W) (a:qg9 W u):PlI j u:=by
 obtain⟨d,b,c⟩:=a;exact PlI.round c (PlI.bring b h) (jcd _)
def q9p (x:Int):wfI (wrap64 x):=by
 unfold wfI wrap64;omega
def qhw {g:GrS} (h:wfI W.lost):wfI (zk W g).lost:=by
 unfold zk;split
 .exact q9p _
 exact h
def qms {t:TxP}:∀(k:Nat) {W:WoS},wfI W.lost->wfI (qam t k W).lost
 |0,_,h=>h
 |k+1,_,h=>by
  unfold qam;split
  .exact qms k h
  exact qhw (qms k h)
def qo1 {o:Nat}:∀(l:List TxP) {W:WoS},wfI W.lost->wfI (zl o l W).lost
 |[],_,h=>h
 |t::l,_,h=>by
  unfold zl;refine qo1 l ?_;split
  .exact h
  exact qhw h
def q30 {g:GrS} (a:qeo W g u) (h:wfI W.lost):wfI u.lost:=by
 unfold qeo at a;split at a
 .obtain⟨b,_,rfl⟩:=a;exact h
 split at a
 .rw[a];exact qo1 _ h
 rw[a];exact h
def qmh {i:Nat} (a:zy W i u) (h:wfI W.lost):wfI u.lost:=by
 obtain⟨g,_,b⟩:=a;exact q30 b h
def qqa (a:qaf W u):wfI W.lost->wfI u.lost:=by
 induction a with
 |none _=>exact id
 |step _ hd _ ih=>exact λh=>ih (qmh hd h)
def q2m {k m:Nat} (a:qdo k m W u):wfI W.lost->wfI u.lost:=by
 induction a with
 |zero=>exact id
 |self _ _ ih=>exact ih
 |ask _ _ hb ih=>exact λh=>qqa hb (qhw (ih h))
def qzq {m:Nat} (a:qc1 m W u):wfI W.lost->wfI u.lost:=by
 induction a with
 |zero=>exact id
 |next _ h2 ih=>exact λh=>q2m h2 (ih h)
def q1r (a:qg9 W u) (h:wfI W.lost):wfI u.lost:=by
 obtain⟨d,b,c⟩:=a;exact qzq c (qqa b h)
end
structure qe9 (s:qy):Prop where
 p0:qag s.p0
 p1:qag s.p1
 p2:qag s.p2
 p3:qag s.p3
 s0:qag s.s0
 s1:qag s.s1
 s2:qag s.s2
 s3:qag s.s3
 ws:∀x∈s.ws,x.data.size<=12
def qdx {a b:Int} (h:qag a) (k:qag b):qag (jd a b):=by unfold jd;split<;>assumption
def qeh:qag 0:=⟨oj,oj⟩
def qe9.new:qe9 qez:=⟨qeh,qeh,qeh,qeh,qeh,qeh,qeh,qeh,λ_ h=>(by cases h)⟩
def qe9.begin {S:qe} {s:qy} (h:qe9 s) (a:j3 S):qe9 (qhd S s):=by
 unfold qhd;split
 .exact⟨h.p0,h.p1,h.p2,h.p3,a.a0,a.a1,a.a2,a.a3,λ_ h=>(by cases h)⟩
 exact h
def qe9.write {s:qy} (h:qe9 s) (x:Wr):qe9 (qd2 s x):=by
 unfold qd2;split
 .rename_i q;refine⟨h.p0,h.p1,h.p2,h.p3,h.s0,h.s1,h.s2,h.s3,λy a=>?_⟩;obtain r|r:=jcf.1 a
  .exact h.ws y r
  rw[jcj.1 r];unfold qaj at q;repeat' split at q
  all_goals first|omega|(exfalso;revert q;decide)
 exact h
def qe9.end_ {s:qy} (h:qe9 s):qe9 (qc3 s):=⟨qdx h.p0 h.s0,qdx h.p1 h.s1,qdx h.p2 h.s2,qdx h.p3 h.s3,qeh,qeh,qeh,qeh,λ_ h=>(by cases h)⟩
def qe9.abort {s:qy} (h:qe9 s):qe9 (qhh s):=by
 unfold qhh;split
 .exact h
 exact h.end_
def qe9.atLeast {s:qy} (h:qe9 s) {b a:Int} (c:qag a):qe9 (atLeast b a s):=by
 refine⟨?_,?_,?_,?_,h.s0,h.s1,h.s2,h.s3,h.ws⟩
 .show qag (if b=0 then jd s.p0 a else s.p0);split;exact qdx h.p0 c;exact h.p0
 .show qag (if b=1 then jd s.p1 a else s.p1);split;exact qdx h.p1 c;exact h.p1
 .show qag (if b=2 then jd s.p2 a else s.p2);split;exact qdx h.p2 c;exact h.p2
 show qag (if b=3 then jd s.p3 a else s.p3);split;exact qdx h.p3 c;exact h.p3
def qe9.commit {S:qe} {s:qy} {now:Int} (h:qe9 s) (a:qag (qce S s now).seq):qe9 (j0 S s now):=by
 unfold j0;split
 .exact h
 split
 .exact h.end_
 exact h.end_.atLeast a
structure DkI (W:WoS):Prop where
 pl:∃j,PlI j W
 ses:∀k,k<W.c->qe9 (W.ses k)
 lost:wfI W.lost
section
variable {k:Nat}
def DkI.new {n c:Nat} (a:1<=n) (b:n<=4) (d:c<=6):DkI (qcb n c):=⟨⟨0,PlI.new a b d⟩,λ_ _=>qe9.new,(by show wfI 0;exact⟨oj,oj⟩)⟩
def DkI.set {a:qy} (h:DkI W) (b:∃j,PlI j (vf W k a)) (c:qe9 a):DkI (vf W k a):=⟨b,λi d=>by
 show qe9 (jj W.ses k a i);by_cases q:i=k
 .rw[q,qt];exact c
 rw[yq _ _ q];exact h.ses i d,h.lost⟩
def q2w (h:DkI W) (b:k<W.c):qag (wcT W k).seq:=by
 by_cases q:0<(wcT W k).seq
 .obtain⟨j,a⟩:=h.pl;have:=(a.told b q).1;simp only[okT,jt,jct,jk]at this;exact⟨oe,oe⟩
 unfold wcT qce at q ⊢;split at q
 .rename_i e;rw[if_pos e];exact qeh
 rename_i e;rw[if_neg e];unfold qha at q ⊢;split at q
 .rename_i f;rw[if_pos f];exfalso;apply q;obtain⟨j,a⟩:=h.pl;have d:=a.wf.inv _ (a.wf.at_ k b);have:=qis (ws:=jh (W.ses k).ws) d f;simp only[okT,jt,jct,jk]at this;have:=this.1.1.1.1.2.1;omega
 rename_i f;rw[if_neg f];exact qeh
def DkI.cmd {i:Nat} {l:List Int} {d:By} {r:Int} {t:List UInt8} (h:DkI W) (a:qaa i W l d u r t):DkI u:=by
 obtain⟨j,b⟩:=h.pl;unfold qaa at a;split at a;case h_1 k=>
  obtain⟨_,a⟩:=a;split at a
  .rename_i q;have f:k.toNat<W.c:=by have:=q.1;have:=q.2;omega
   rw[a.1];exact h.set ⟨_,b.abort f⟩ (h.ses _ f).abort
  rw[a.1];exact h
 case h_2 k o=>
  obtain⟨_,a⟩:=a;split at a
  .rename_i q;rw[a.1];exact⟨⟨j,b.send (g:=⟨o.toNat,.ask k.toNat (W.S k.toNat).a0 (W.S k.toNat).a1 (W.S k.toNat).a2 (W.S k.toNat).a3⟩) (by show o.toNat<W.n;have:=q.2.1.1;have:=q.2.1.2;omega) (by show 0<=(k.toNat:Int)/\(k.toNat:Int)<(W.n:Int);have:=q.1.1;have:=q.1.2;omega)⟩,by rw[show (qme W k.toNat o.toNat).c=W.c from(yb _ _).c,show (qme W k.toNat o.toNat).ses=W.ses from(yb _ _).ses];exact h.ses,qhw h.lost⟩
  rw[a.1];exact h
 case h_3 k=>
  obtain⟨_,a⟩:=a;split at a
  .rename_i q;have f:k.toNat<W.c:=by have:=q.1;have:=q.2;omega
   rw[a.1];exact h.set ⟨_,b.begin f⟩ ((h.ses _ f).begin (b.wf.inv _ (b.wf.at_ _ f)))
  rw[a.1];exact h
 case h_4=>exact⟨⟨j,b.calm a.2.1⟩,by rw[a.2.1.keep.c,a.2.1.keep.ses];exact h.ses,q1r a.2.1 h.lost⟩
 case h_5=>rw[a.1];exact h
 case h_6 k=>
  split at a
  .rename_i q;have f:k.toNat<W.c:=by have:=q.1;have:=q.2;omega
   rw[a.2.1]
   have m:∀i,i<W.c->qe9 ((qd4 W k.toNat).ses i):=λi s=>by
        show qe9 (jj W.ses k.toNat _ i);by_cases e:i=k.toNat
        .rw[e,qt];exact(h.ses _ f).commit (q2w h f)
        rw[yq _ _ e];exact h.ses i s
   refine⟨⟨j,b.commit f⟩,?_,?_⟩
   .unfold wcW;split
    .rw[(zx _ _ _).c,(zx _ _ _).ses];exact m
    exact m
   unfold wcW;split
   .exact qms _ h.lost
   exact h.lost
  rw[a.2.1];exact h
 case h_7 k=>
  obtain⟨_,a⟩:=a;split at a
  .exact⟨⟨j,b.deliver a.1⟩,by rw[a.1.keep.c,a.1.keep.ses];exact h.ses,qmh a.1 h.lost⟩
  rw[a.1];exact h
 case h_8 k key=>
  obtain⟨_,a⟩:=a;split at a
  .rename_i q;have f:k.toNat<W.c:=by have:=q.1;have:=q.2;omega
   rw[a.1];exact h.set ⟨_,b.write f _⟩ ((h.ses _ f).write _)
  rw[a.1];exact h
 case h_9 k y=>
  obtain⟨_,a⟩:=a;split at a
  .rename_i q;rw[a.1];exact⟨⟨j,b.goes q.2.1 (by have:=q.1.1;have:=q.1.2;omega)⟩,h.ses,h.lost⟩
  rw[a.1];exact h
 case h_10=>rw[a.2.1];exact h
 case h_11 k=>
  obtain⟨_,a⟩:=a;split at a
  .rw[a.1];exact⟨⟨j,b.drop _⟩,h.ses,h.lost⟩
  rw[a.1];exact h
 case h_12=>rw[a.2.1];exact h
 case h_13 k to_=>
  obtain⟨_,a⟩:=a;split at a
  .rename_i q;rw[a.1];refine⟨⟨j,b.move (by have:=q.2.1;have:=q.2.2;omega)⟩,?_,?_⟩<;>unfold qhx<;>split<;>first|exact h.ses|exact h.lost
  rw[a.1];exact h
 case h_14=>rw[a.1];exact h
 case h_15=>rw[a.1];exact h
 case h_16 k=>
  obtain⟨_,a⟩:=a;split at a
  .rename_i q;rw[a.1];exact⟨⟨j,b.sweep (by have:=q.1;have:=q.2;omega)⟩,h.ses,h.lost⟩
  rw[a.1];exact h
 case h_17 k=>
  obtain⟨_,a⟩:=a;split at a
  .obtain⟨⟨g,p,rfl⟩,_⟩:=a;exact⟨⟨j,b.send (b.wf.tj g (jcq p)) (b.nt g (jcq p))⟩,by rw[(yb _ _).c,(yb _ _).ses];exact h.ses,qhw h.lost⟩
  rw[a.1];exact h
 case h_18 n c=>
  obtain⟨_,a⟩:=a;split at a
  .rename_i q;rw[a.1];exact DkI.new oe oe oe
  rw[a.1];exact h
 case h_19 k key=>
  obtain⟨_,a⟩:=a;split at a
  .rename_i q;have f:k.toNat<W.c:=by have:=q.1;have:=q.2;omega
   rw[a.1];exact h.set ⟨_,b.write f _⟩ ((h.ses _ f).write _)
  rw[a.1];exact h
 case h_20=>exact a.elim
def DkI.does {i:Nat} {rest:List By} {b:Int} {t:List UInt8} (h:DkI W) (a:qc2 i W rest u b t):DkI u:=by
 unfold qc2 at a;split at a
 .rw[a.1];exact h
 exact h.cmd a
end
end
section
def Few (n:Int):Prop:=0<=n/\n<=100
def Few.wf {n:Int} (h:Few n):wfI n:=⟨by have:=h.1;omega,by have:=h.2;omega⟩
variable {c:Prop}
def qdq [Decidable c] {a b:Int} (h:Few a) (k:Few b):Few (if c then a else b):=by
 by_cases q:c
 .rw[if_pos q];exact h
 rw[if_neg q];exact k
def qdh:Few 0:=⟨oj,oj⟩
def jak:Few 1:=⟨oj,oj⟩
def qdu:Few 2:=⟨oj,oj⟩
def jaf:Few 3:=⟨oj,oj⟩
def jbs:Few 4:=⟨oj,oj⟩
def qrj:Few 6:=⟨oj,oj⟩
def jah:Few 8:=⟨oj,oj⟩
def qts:Few 10:=⟨oj,oj⟩
def qyd:Few 12:=⟨oj,oj⟩
def q9l (s:qy):Few (qi5 s):=qdq qrj qdh
def q8c (S:qe) (s:qy):Few (qhl S s):=qdq qrj (qdq qts qdh)
def q0s (s:qy) (x:Wr):Few (qaj s x):=qdq qrj (qdq qdu (qdq jbs (qdq jak (qdq qyd qdh))))
def q6c (W:WoS) (k:Nat):Few (qll W k):=qdq qrj qdh
variable {α:Type}
def q5n [Decidable c] {a b:α×Int} (h:Few a.2) (k:Few b.2):Few (if c then a else b).2:=by
 by_cases q:c
 .rw[if_pos q];exact h
 rw[if_neg q];exact k
def qn9 {β:Type} [Decidable c] {a b:α×β×Int} (h:Few a.2.2) (k:Few b.2.2):Few (if c then a else b).2.2:=by
 by_cases q:c
 .rw[if_pos q];exact h
 rw[if_neg q];exact k
def q5i (a b c:Int):Few (qcp a b c).2.2:=qn9 qdu (qn9 qdu (qn9 qdh (qn9 qyd qdh)))
def jbo (o:Option Ver):Few (qjj o).2:=by
 unfold qjj;repeat' split
 all_goals first|exact qdh|exact jah
def qxv (S:qe) (n:Nat) (now a b d e:Int) (ws:List Wr):Few (ji S n now a b d e ws):=by
 unfold ji;exact qdq jak (qdq qts (qdq qts (qdq qyd (q5i ..))))
def q8b (W:WoS) (k:Nat):Few (wcE W k):=qdq qrj (qdq qdh (qxv ..))
def ja4 (S:qe) (k a0 a1 a2 a3:Int):Few (qbq S k a0 a1 a2 a3).2:=q5n (q5n (jbo _) qdu) qts
def q55 (S:qe) (s:qy) (k:Int):Few (vi S s k).2:=by
 unfold vi;by_cases q:s.opn=false
 .rw[if_pos q];exact qrj
 rw[if_neg q];cases qay s.ws k with
 |none=>exact ja4 ..
 |some x=>
  by_cases g:x.gone=true
  .simp only[if_pos g];exact jah
  simp only[if_neg g];exact qdh
variable {i:Nat} {m:WoS} {j:Int} {t:List UInt8}
def qaa.few {l:List Int} {d:By} (h:qaa i W l d m j t):Few j:=by
 unfold qaa at h;split at h;case h_1=>have h:=h.2;split at h<;>(rw[h.2];first|exact q9l _|exact qdu)
 case h_2=>have h:=h.2;split at h<;>(rw[h.2];first|exact qdh|exact qdu)
 case h_3=>have h:=h.2;split at h<;>(rw[h.2];first|exact q8c _ _|exact qdu)
 case h_4=>rw[h.2.2];exact qdh
 case h_5=>have h:=h.2;split at h<;>(rw[h.2];first|exact qdh|exact qdu)
 case h_6=>split at h<;>(rw[h.2.2];first|exact q8b _ _|exact qdu)
 case h_7=>have h:=h.2;split at h<;>(rw[h.2];first|exact qdh|exact qdu)
 case h_8=>have h:=h.2;split at h<;>(rw[h.2];first|exact q0s _ _|exact qdu)
 case h_9=>have h:=h.2;split at h<;>(rw[h.2];first|exact qdh|exact qdu)
 case h_10=>rw[h.2.2];exact qdh
 case h_11=>have h:=h.2;split at h<;>(rw[h.2];first|exact qdh|exact qdu)
 case h_12=>rw[h.2.2];exact qdh
 case h_13=>have h:=h.2;split at h<;>(rw[h.2];first|exact q6c _ _|exact qdu)
 case h_14=>have h:=h.2;split at h<;>(rw[h.2];first|exact q55 _ _ _|exact qdu)
 case h_15=>have h:=h.2;split at h<;>(rw[h.2];first|exact qdh|exact qdu)
 case h_16=>have h:=h.2;split at h<;>(rw[h.2];first|exact qdh|exact qdu)
 case h_17=>have h:=h.2;split at h<;>(rw[h.2];first|exact qdh|exact qdu)
 case h_18=>have h:=h.2;split at h<;>(rw[h.2];first|exact qdh|exact qdu)
 case h_19=>have h:=h.2;split at h<;>(rw[h.2];first|exact q0s _ _|exact qdu)
 exact h.elim
def qc2.few {l:List By} (h:qc2 i W l m j t):Few j:=by
 unfold qc2 at h;split at h
 .rw[h.2.1];exact jaf
 exact h.few
end
def qao:List UInt8->List (List UInt8)
 |[]=>[[]]
 |c::r=>if c=10 then []::qao r else
  match qao r with
  |h::t=>(c::h)::t
  |[]=>[[c]]
def qfq (s:List UInt8):List (List UInt8):=qao (Lib.trimSuffix s [10])
def qrs (s:List UInt8):qao s≠[]:=by
 cases s with
 |nil=>simp[qao]
 |cons c r=>
  unfold qao;split
  .simp
  split<;>simp
def qg4 (c:UInt8) (r:List UInt8):qao (c::r)=if c=10 then []::qao r else match qao r with|h::t=>(c::h)::t|[]=>[[c]]:=rfl
def q0e:Lib.cut [] [10]=([],[],false):=oj
def qt7 (c:UInt8) (r:List UInt8):Lib.cut (c::r) [10]=if c=10 then ([],r,true)else (c::(Lib.cut r [10]).1,(Lib.cut r [10]).2.1,(Lib.cut r [10]).2.2):=by
 have a:Lib.index (c::r) [10]=if c=10 then 0 else if Lib.index r [10]== -1 then-1 else Lib.index r [10]+1:=by
  conv=>lhs;unfold Lib.index
  by_cases e:c=10
  .simp[e,List.isPrefixOf]
  simp[e,List.isPrefixOf,Ne.symm e]
 have d:=Lib.index_ge r [10];unfold Lib.cut;rw[a];by_cases e:c=10
 .simp[e]
 rw[if_neg e,if_neg e];by_cases q:Lib.index r [10]= -1
 .simp[q]
 have b:0<=Lib.index r [10]:=oe;rw[if_neg (show ¬(Lib.index r [10]== -1)=true by simp[q]),if_pos (show 0<=Lib.index r [10]+1 by omega),if_pos b,show (Lib.index r [10]+1).toNat=(Lib.index r [10]).toNat+1 by omega];simp
def qxi (s:List UInt8):qao s=if (Lib.cut s [10]).2.2=true then (Lib.cut s [10]).1::qao (Lib.cut s [10]).2.1 else [(Lib.cut s [10]).1]:=by
 induction s with
 |nil=>rw[q0e];rfl
 |cons c r ih=>
  rw[qg4,qt7];by_cases e:c=10
  .simp[e]
  rw[if_neg e,if_neg e,ih];by_cases q:(Lib.cut r [10]).2.2=true
  .simp[q]
  simp[q]
def q4q (s:List UInt8) (h:(Lib.cut s [10]).2.2=true):(Lib.cut s [10]).2.1.length<s.length:=by
 induction s with
 |nil=>rw[q0e]at h;cases h
 |cons c r ih=>
  rw[qt7]at h ⊢;by_cases e:c=10
  .simp[e]
  rw[if_neg e]at h ⊢;have:=ih h;simp only[List.length_cons];omega
def jb4 (x y:List UInt8):Bool:=decide (x<=y)
def qv2:qc9.Pairwise (λx y=>jb4 x y=true):=oj
def qu9 {d:List (List UInt8)} (h:d.Perm qc9):d.mergeSort (λx y=>decide (x<=y))=qc9:=by
 have g:∀a b c:List UInt8,decide (a<=b)=true->decide (b<=c)=true->decide (a<=c)=true:=λa b c e f=>decide_eq_true (List.le_trans (of_decide_eq_true e) (of_decide_eq_true f))
 have i:∀a b:List UInt8,(decide (a<=b)||decide (b<=a))=true:=λa b=>by
  obtain q|q:=List.le_total a b<;>simp[q]
 have j:=List.pairwise_mergeSort g i d;have k:=(List.mergeSort_perm d (λx y=>decide (x<=y))).trans h;exact k.eq_of_pairwise (λa b _ _ e f=>List.le_antisymm (of_decide_eq_true e) (of_decide_eq_true f)) j qv2
end Go.Proofs.YtbfkeoagmajcpaaGreatDoor
