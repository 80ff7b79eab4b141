import Derived.Test.YtoanjdndmlffdaaGreatDoorSiteO
import Derived.Test.YtoanjdndmlffdaaGreatDoorSiteL
set_option maxHeartbeats 8000000
set_option maxRecDepth 100000
namespace Go.Proofs.YtoanjdndmlffdaaGreatDoor
open Go.RowKit
section
structure qhp (w:World) (hb b:Nat) (Gw:Nat->Prop) (W:WoS):Prop where
 box:w.heap[hb]?=some (.cells #[PP b] 49 (0,0))
 rw:RW w b Gw W
 n:¬Gw hb
def q2o (hb:Nat) (W:WoS) (w:World) (G:Nat->Prop):Prop:=∃b Gw,qhp w hb b Gw W/\∀k,G k↔(k=hb\/Gw k)
variable {w1:World}
section
variable {w w':World} {hb b:Nat} {Gw G:Nat->Prop} {W W':WoS}
theorem qhp.lt (h:qhp w hb b Gw W):hb<w.heap.size:=(jcs.1 h.box).1
theorem qhp.kept (h:qhp w hb b Gw W) (a:∀k,(k=hb\/Gw k)->w'.heap[k]?=w.heap[k]?) (d:w.heap.size<=w'.heap.size):qhp w' hb b Gw W:=
 ⟨(a hb (.inl rfl)).trans h.box,h.rw.kept (λk e=>a k (.inr e)) d,h.n⟩
theorem q2o.lt (h:q2o hb W w G):∀k,G k->k<w.heap.size:=λk a=>by
 obtain⟨b,Gw,h,d⟩:=h;rcases(d k).1 a with rfl|e
 ·exact h.lt
 exact h.rw.lt k e
theorem q2o.kept (h:q2o hb W w G) (d:∀k,G k->w'.heap[k]?=w.heap[k]?) (g:w.heap.size<=w'.heap.size):q2o hb W w' G:=by
 obtain⟨b,Gw,h,a⟩:=h;exact⟨b,Gw,h.kept (λk e=>d k ((a k).2 e)) g,a⟩
def hsP (hb:Nat) (W:WoS):qfr:=⟨λw G=>q2o hb W w G,λ_ _ h=>h.lt,λ_ _ _ h=>h.kept⟩
theorem qhp.later (h:qhp w hb b Gw W) (a:Bw w w'):qhp w' hb b Gw W:=
 h.kept (λk e=>a.block k (by rcases e with rfl|e;exact h.lt;exact h.rw.lt k e)) a.size
theorem qhp.cell (h:qhp w hb b Gw W):w.cell? (AD hb 0)=some (PP b):=by rw[Lib.cell_of_heap h.box];rfl
theorem qhp.op (h:qhp w hb b Gw W) (d:∀k,G k↔(k=hb\/Gw k)) (g:Bw w w1) (m:qae w1 b Gw W' w'):qbi (hsP hb W') w G w':=by
 obtain⟨j,p1,p2,a⟩:=m;have l:=h.later g;have lc:=l.lt;refine⟨λk=>k=hb\/j k,⟨b,j,⟨(a.block hb lc h.n).trans l.box,p1,λe=>?_⟩,λ_=>jdl⟩,λk i=>?_,?_⟩
 ·rcases p2 hb e with q|q
  ·exact h.n q
  omega
 ·rcases i with rfl|e
  ·exact .inl ((d k).2 (.inl rfl))
  rcases p2 k e with q|q
  ·exact .inl ((d k).2 (.inr q))
  exact .inr (jcn g.size q)
 exact(qc.ofBelow g).trans ⟨a.os,a.tape,a.output,a.size,λk i o=>a.block k i (λe=>o ((d k).2 (.inr e)))⟩
theorem qhp.same (h:qhp w hb b Gw W) (d:∀k,G k↔(k=hb\/Gw k)) (a:Bw w w'):qbi (hsP hb W) w G w':=
 ⟨G,⟨b,Gw,h.later a,d⟩,λ_ e=>.inl e,qc.ofBelow a⟩
theorem q7n (h:qbi (hsP hb W') w G w1) (a:Bw w1 w'):qbi (hsP hb W') w G w':=by
 obtain⟨d,p1,p2,g⟩:=h;exact⟨d,p1.kept (λk e=>a.block k (p1.lt k e)) a.size,p2,g.trans (qc.ofBelow a)⟩
end
variable {w:World} {W:WoS}
theorem RW.lens {b:Nat} {G:Nat->Prop} (h:RW w b G W):∃a0 a a2 d e g,w.cell? (AD b 0)=some (.slice a0 W.n a)/\w.cell? (AD b 2)=some (.slice a2 W.c d)/\w.cell? (AD b 4)=some (.slice e W.net.length g)/\w.cell? (AD b 5)=some (U W.lost)/\b<w.heap.size:=by
 obtain⟨M,r,h,_⟩:=h;obtain⟨a0,a,m,_⟩:=qq h.sr;obtain⟨a2,d,o,_⟩:=qq h.cr;obtain⟨e,g,p,_⟩:=qq h.yr
 have q:M.l.length=W.net.length:=by rw[<-h.nl];simp
 have i:=h.box.c 0;have j:=h.box.c 2;have k:=h.box.c 4;rw[m]at i;rw[o]at j;rw[p,q]at k;exact⟨a0,a,a2,d,e,g,i,j,k,h.box.c 5,h.box.lt⟩
structure qx9 (w:World) (B:Nat) (a:Option Addr) (cap:Nat) (ns:List Int):Prop where
 cap:ns.length<=cap
 cell:∀(j:Nat) x,ns[j]?=some x->∃g,a=some (AD g 0)/\B<=g/\g<w.heap.size/\w.cell? (AD g j)=some (U x)
variable {ns:List Int}
theorem qx9.later {w':World} {B:Nat} {a:Option Addr} {cap:Nat} (h:qx9 w B a cap ns) (hb:Bw w w'):qx9 w' B a cap ns:=
 ⟨h.cap,λj x e=>by obtain⟨g,i,k,d,l⟩:=h.cell j x e;exact⟨g,i,k,jci d hb.size,(hb.cell (p:=AD g j) d).trans l⟩⟩
def thC (W:WoS) (c:UInt8) (n:Int):Bool:=if c=99 then inB n 0 ((W.c:Int)-1)else if c=115 then inB n 0 ((W.n:Int)-1)else if c=105 then inB n 0 ((W.net.length:Int)-1)else true
def thB (W:WoS):List UInt8->List Int->Bool
 |[],_=>true
 |c::f,ns=>if c=119 then thB W f ns else match ns with
  |[]=>true
  |n::r=>thC W c n&&thB W f r
def qhk:List UInt8->Nat
 |[]=>0
 |c::f=>if c=119 then qhk f else qhk f+1
variable {c:UInt8} {f:List UInt8}
theorem jbm (e:c=119):thB W (c::f) ns=thB W f ns:=if_pos e
theorem jbl {n:Int} {r:List Int} (e:¬c=119):thB W (c::f) (n::r)=(thC W c n&&thB W f r):=if_neg e
theorem q54 (e:c=119):qhk (c::f)=qhk f:=if_pos e
theorem qxs (e:¬c=119):qhk (c::f)=qhk f+1:=if_neg e
end
theorem qxb {hb b B:Nat} {Gw:Nat->Prop} {W:WoS} {a:Option Addr} {cap:Nat} (f:List UInt8) (ns:List Int) (hf:f.length<=3) (ha:∀c∈f,c.toNat<128) (hn:qhk f=ns.length) (w:World) (h:qhp w hb b Gw W) (X:WfW W) (hN:qx9 w B a cap ns):
 Ca 30 #[PP hb,.string (bya f),.slice a ns.length cap] w (Rn (.bool (thB W f ns)) w):=by
 have hne:=qb.one;have hcn:=X.c6;have hnn:=X.n4;have hnet:=X.net;have hcap:=hN.cap;obtain⟨a0,k0,a2,k2,a4,k4,c0,c2,c4,_,hbl⟩:=h.rw.lens;have hc:=h.cell;have hbox:=h.lt;have HN:=hd1 hN;have HA:=hd1 ha
 have hn3:ns.length<=3:=by
  have:∀l:List UInt8,qhk l<=l.length:=λl=>by
   induction l with
   |nil=>exact jcd _
   |cons c r ih=>unfold qhk;split<;>simp only[List.length_cons]<;>omega
  have:=this f;omega
 have HF:=hd1 hn;clear h X hN ha hn;go_enter Tryz.func30,Tryz.ntmps30
 go_wp2
 go_loopw [7] (λkv wr=>∃(p k:Nat) (z:Int),p<=f.length/\k<=ns.length/\z=k/\kv=U z/\wr.heap[w.heap.size]?=some (.stringIter (bya f) p)/\Hid (thB W f ns=thB W (f.drop p) (ns.drop k)/\qhk (f.drop p)=(ns.drop k).length)/\Bw w wr) (λ_ wr=>f.length-wr.iterPos w.heap.size)
 case atStart=>exact⟨0,0,0,jcw _,jcw _,rfl,rfl,World.iter_heap w (bya f) 0,⟨rfl,HF.out⟩,(jcc _ w).alloc (jcd _) _⟩
 obtain⟨p,k,z,hp,hk,hz,rfl,H,Y,I⟩:=hrel;have R:=hd1 hz;have S:=hd1 H;by_cases Z:p<f.length
 ·obtain⟨c,T⟩:∃c,f[p]=c:=⟨_,rfl⟩
  have hdf:f.drop p=c::f.drop (p+1):=by rw[jdy Z,T]
  have C:(Instr.next (PP w.heap.size) true 0).run Tryz.prog wr=.ok (.tuple #[.bool true,U p,.int .i32 (c.toNat:Int)]) (wr.iterAt w.heap.size (bya f) (p+1)):=by
   have hs:p<(bya f).size:=by rw[Lib.size_eq];exact Z
   have hx:(bya f)[p]'hs=c:=by rw[<-T];rfl
   have:=Lib.run_next_ascii_at (P:=Tryz.prog) wr w.heap.size (bya f) p 0 H hs (by rw[hx];exact HA.out c (by rw[<-T];exact jdr Z));rw[hx]at this;exact this
  obtain⟨M,D⟩:∃M,wr.iterAt w.heap.size (bya f) (p+1)=M:=⟨_,rfl⟩
  have ot:∀j,j≠w.heap.size->M.heap[j]?=wr.heap[j]?:=λj hj=>by rw[<-D];exact Lib.iterAt_other _ _ _ _ _ hj
  have s1:M.heap.size=wr.heap.size:=by rw[<-D];exact Lib.iterAt_size _ _ _ _
  have aa:M.heap[w.heap.size]?=some (.stringIter (bya f) (p+1)):=by rw[<-D];exact Lib.iterAt_heap _ _ _ _ _ H
  have hb1:Bw w M:=by
   refine⟨?_,?_,?_,by rw[s1];exact I.size,λj hj=>(ot j (by omega)).trans (I.block j hj)⟩
   ·rw[<-D];exact I.os
   ·rw[<-D];exact I.tape
   rw[<-D];exact I.output
  have lt1:=(jcs.1 aa).1;rw[D]at C;have J:=hd1 aa;have u:=hd2 hb1 lt1;obtain⟨N,K⟩:=Y.out;rw[hdf]at N K;by_cases m:c=119
  ·have d:=hd2 (N.trans (jbm m)) ((q54 m).symm.trans K)
   have i:(c.toNat:Int)=119:=by rw[m];rfl
   rw[i]at C;clear i m N K hdf D ot H aa T
   go_wp2
   go_roundw
   case rel=>exact⟨p+1,k,z,by omega,hk,R.out,rfl,J.out,d.out,u.out.1⟩
   rw[iterPos_of J.out,iterPos_of S.out];omega
  have hk2:k<ns.length:=by
   rw[qxs m,jdt]at K;omega
  obtain⟨n,hnx⟩:∃n,ns[k]=n:=⟨_,rfl⟩
  have hdn:ns.drop k=n::ns.drop (k+1):=by rw[jdy hk2,hnx]
  obtain⟨g,rfl,_,hgl,cg⟩:=HN.out.cell k n (by rw[jcg hk2,hnx]);rw[hdn]at N K;have o:=N.trans (jbl m)
  have E:qhk (f.drop (p+1))=(ns.drop (k+1)).length:=by
   rw[qxs m,List.length_cons]at K;omega
  have O:=λ(q:Addr) (v:Value) (hq:q.block<w.heap.size) (e:w.cell? q=some v)=>qb.cell ((hb1.cell (p:=q) hq).trans e);have l0:=O (AD hb 0) _ hbox hc;have l1:=O (AD b 0) _ hbl c0;have l2:=O (AD b 2) _ hbl c2;have l4:=O (AD b 4) _ hbl c4;have l5:=O (AD g k) _ hgl cg
  have g1:0<=z:=by omega
  have g2:z<(ns.length:Int):=by omega
  have g3:z.toNat=k:=by omega
  have g4:z<3:=by omega
  clear N K hdf hdn D ot H aa T O hz hnx Y hb1;by_cases F:c=99
  ·have s:thC W c n=inB n 0 ((W.c:Int)-1):=by unfold thC;rw[if_pos F]
   have i:(c.toNat:Int)=99:=by rw[F];rfl
   cases hin:inB n 0 ((W.c:Int)-1)
   ·have y:=λx:World=>vj hin x
    have d:Hid (thB W f ns=false):=by show _=_;rw[o,s,hin];rfl
    clear hin s o F m;rw[i]at C;clear i
    go_wp2_with fail
    refine wrl ?_
    repeat (go_big_quiet_step (first|rfl|(go_at_call 28;with_reducible exact qg (y _))))
    refine wpQuiet_nil ?_;rintro w2 ⟨⟨_,t⟩,rfl⟩
    go_wp2
    go_ret;exact⟨by rw[d.out];rfl,qa u.out.1 t⟩
   have y:=λx:World=>vj hin x;have d:=hd2 (show thB W f ns=thB W (f.drop (p+1)) (ns.drop (k+1))from by rw[o,s,hin];rfl) E;clear hin s o E F m;rw[i]at C;clear i
   go_wp2_with fail
   refine wrl ?_
   repeat (go_big_quiet_step (first|rfl|(go_at_call 28;with_reducible exact qg (y _))))
   refine wpQuiet_nil ?_;rintro w2 ⟨⟨_,t⟩,rfl⟩;have G:=(t.block _ (by have:=u.out.2;omega)).trans J.out;have V:=qa u.out.1 t
   go_wp2
   go_roundw
   case rel=>exact⟨p+1,k+1,z+1,by omega,by omega,by have:=R.out;omega,by go_num,G,d.out,V⟩
   rw[iterPos_of G,iterPos_of S.out];omega
  by_cases L:c=115
  ·have s:thC W c n=inB n 0 ((W.n:Int)-1):=by unfold thC;rw[if_neg F,if_pos L]
   have i:(c.toNat:Int)=115:=by rw[L];rfl
   cases hin:inB n 0 ((W.n:Int)-1)
   ·have y:=λx:World=>vj hin x
    have d:Hid (thB W f ns=false):=by show _=_;rw[o,s,hin];rfl
    clear hin s o L m;rw[i]at C;clear i
    go_wp2_with fail
    refine wrl ?_
    repeat (go_big_quiet_step (first|rfl|(go_at_call 28;with_reducible exact qg (y _))))
    refine wpQuiet_nil ?_;rintro w2 ⟨⟨_,t⟩,rfl⟩
    go_wp2
    go_ret;exact⟨by rw[d.out];rfl,qa u.out.1 t⟩
   have y:=λx:World=>vj hin x;have d:=hd2 (show thB W f ns=thB W (f.drop (p+1)) (ns.drop (k+1))from by rw[o,s,hin];rfl) E;clear hin s o E L m;rw[i]at C;clear i
   go_wp2_with fail
   refine wrl ?_
   repeat (go_big_quiet_step (first|rfl|(go_at_call 28;with_reducible exact qg (y _))))
   refine wpQuiet_nil ?_;rintro w2 ⟨⟨_,t⟩,rfl⟩;have G:=(t.block _ (by have:=u.out.2;omega)).trans J.out;have V:=qa u.out.1 t
   go_wp2
   go_roundw
   case rel=>exact⟨p+1,k+1,z+1,by omega,by omega,by have:=R.out;omega,by go_num,G,d.out,V⟩
   rw[iterPos_of G,iterPos_of S.out];omega
  by_cases Q:c=105
  ·have s:thC W c n=inB n 0 ((W.net.length:Int)-1):=by unfold thC;rw[if_neg F,if_neg L,if_pos Q]
   have i:(c.toNat:Int)=105:=by rw[Q];rfl
   cases hin:inB n 0 ((W.net.length:Int)-1)
   ·have y:=λx:World=>vj hin x
    have d:Hid (thB W f ns=false):=by show _=_;rw[o,s,hin];rfl
    clear hin s o Q m;rw[i]at C;clear i
    go_wp2_with fail
    refine wrl ?_
    repeat (go_big_quiet_step (first|rfl|(go_at_call 28;with_reducible exact qg (y _))))
    refine wpQuiet_nil ?_;rintro w2 ⟨⟨_,t⟩,rfl⟩
    go_wp2
    go_ret;exact⟨by rw[d.out];rfl,qa u.out.1 t⟩
   have y:=λx:World=>vj hin x;have d:=hd2 (show thB W f ns=thB W (f.drop (p+1)) (ns.drop (k+1))from by rw[o,s,hin];rfl) E;clear hin s o E Q m;rw[i]at C;clear i
   go_wp2_with fail
   refine wrl ?_
   repeat (go_big_quiet_step (first|rfl|(go_at_call 28;with_reducible exact qg (y _))))
   refine wpQuiet_nil ?_;rintro w2 ⟨⟨_,t⟩,rfl⟩;have G:=(t.block _ (by have:=u.out.2;omega)).trans J.out;have V:=qa u.out.1 t
   go_wp2
   go_roundw
   case rel=>exact⟨p+1,k+1,z+1,by omega,by omega,by have:=R.out;omega,by go_num,G,d.out,V⟩
   rw[iterPos_of G,iterPos_of S.out];omega
  have e119':¬((c.toNat:Int)=119):=λq=>m (UInt8.toNat.inj (by show c.toNat=119;omega));have e99':¬((c.toNat:Int)=99):=λq=>F (UInt8.toNat.inj (by show c.toNat=99;omega));have e115':¬((c.toNat:Int)=115):=λq=>L (UInt8.toNat.inj (by show c.toNat=115;omega));have e105':¬((c.toNat:Int)=105):=λq=>Q (UInt8.toNat.inj (by show c.toNat=105;omega));have d:=hd2 (show thB W f ns=thB W (f.drop (p+1)) (ns.drop (k+1))from by rw[o];unfold thC;rw[if_neg F,if_neg L,if_neg Q];rfl) E;clear o E
  go_wp2
  go_roundw
  case rel=>exact⟨p+1,k+1,z+1,by omega,by omega,by have:=R.out;omega,by go_num,J.out,d.out,u.out.1⟩
  rw[iterPos_of J.out,iterPos_of S.out];omega
 have C:(Instr.next (PP w.heap.size) true 0).run Tryz.prog wr=.ok (.tuple #[.bool false]) wr:=Lib.run_next_end_at wr w.heap.size (bya f) p 0 H (by rw[Lib.size_eq];exact Z)
 have d:Hid (thB W f ns=true):=by
  show _=_;rw[Y.out.1,jdw (by omega)];rfl
 have HB:=hd1 I;clear Y I H hz
 go_wp2
 go_ret;exact⟨by rw[d.out];rfl,HB.out⟩
end Go.Proofs.YtoanjdndmlffdaaGreatDoor
