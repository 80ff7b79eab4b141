import Derived.Test.YtbfkeoagmajcpaaGreatDoorSiteD
import Derived.Stop.Asserts
set_option maxHeartbeats 8000000
set_option maxRecDepth 100000
set_option linter.defProp false
namespace Go.Proofs.YtbfkeoagmajcpaaGreatDoor
open Go.RowKit
variable {F G:Np} {S:qe} {a0 a1 a2 a3:Int} {b k:Nat} {l:List Hd}
section
open Tryz Go.Maps
variable {s:qy}
def qz7 {w a o:Wl} {m:Nat} {x:Wr} (c:∀k,G k↔(k=b\/k=m)) (f:m≠b) (h:s.opn=true) (i:Bw w a) (B:qd a b (yj s (.map (some m)))) (j:qes o m (s.ws++[x])) (g:a.grownBy o (some m)):qc8 w b G {s with ws:=s.ws++[x]} o:=by
 refine⟨G,⟨.map (some m),B.grown g (λe=>f oP),.inr ⟨h,m,rfl,f,j,c⟩⟩,λk l=>.inl l,?_⟩;exact(qc.ofBelow i).trans (qc.grown g (λk e=>(c k).2 (.inr oP)))
variable {d:By}
def qxq (h:d.toList.isEmpty=false):d.size≠0:=λe=>by
 rw[qca]at h;have:=yh d;rw[e]at this;rw[List.length_eq_zero_iff.1 this]at h;cases h
def qva (h:d.toList.isEmpty=true):d.size=0:=by
 rw[qca,List.isEmpty_iff]at h;rw[<-yh,h];rfl
def qxg (x:Wr) (w:Wl) (h:PSe w b G s):
 Ca 129 #[PP b,wrV x] w λe w'=>e=.returned (jc (qaj s x))/\qc8 w b G (qd2 s x) w':=by
 have NO:∀M ev,qaj s x=ev->ev≠0->Bw w M->Hid ((.returned (jc ev):Ending)=.returned (jc (qaj s x))/\qc8 w b G (qd2 s x) M):=λM ev I N e3=>by
  show _/\_;rw[I,show qd2 s x=s by unfold qd2;rw[if_neg (by rw[I];exact N)]];exact⟨rfl,qc8.same h e3⟩
 obtain⟨a,f,i⟩:=x;obtain⟨mv,B0,hm⟩:=h;have m:=boxed (jcc _ w) (.cells #[.int .i64 a,.string f,.bool i] 127);have O:=qd.new (w:=w) (T:=127) [.int .i64 a,.string f,.bool i] rfl;change qd (w.alloc (.cells #[.int .i64 a,.string f,.bool i] 127)) w.heap.size [.int .i64 a,.string f,.bool i]at O;have B:=B0.later m;have r:=hd1 NO;show Ca 129 #[PP b,.agg #[.int .i64 a,.string f,.bool i]] w _;have k4:=B.c 4;obtain⟨t,rfl,_,_⟩|⟨t,A,rfl,hne,hM,hG⟩:=hm;rw[t]at k4;have E:qaj s ⟨a,f,i⟩=6:=by unfold qaj;rw[if_pos t]
 have n:=(r.out _ 6 E oj m).out;rotate_left;rw[t]at k4;have u:¬s.opn=false:=by rw[t];decide
 by_cases hk0:a<0;have E:qaj s ⟨a,f,i⟩=2:=by unfold qaj;rw[if_neg u,if_pos (.inl hk0)]
 have n:=(r.out _ 2 E oj m).out;rotate_left;by_cases hk8:8<=a;have E:qaj s ⟨a,f,i⟩=2:=by unfold qaj;rw[if_neg u,if_pos (.inr hk8)]
 have n:=(r.out _ 2 E oj m).out;rotate_left;have J:¬(a<0\/8<=a):=oe;by_cases hlen:12<(f.size:Int);have E:qaj s ⟨a,f,i⟩=4:=by unfold qaj;rw[if_neg u,if_neg J,if_pos (by show 12<f.size;omega)]
 have n:=(r.out _ 4 E oj m).out;rotate_left;have P:¬12<f.size:=oe;have TAIL:∀g:Bool,i=g->(g=false\/f.toList.isEmpty=true)->Hid (¬(i=true/\f.size≠0)):=λg e h=>by
  show ¬_;rintro ⟨I,N⟩;obtain h|h:=h
  .rw[I]at e;rw[<-e]at h;cases h
  exact N (qva h)
 have RM:Hid (∀{v:Bool},decide (qay s.ws a=none/\5<=(jh s.ws).length)=!v->Ca 165 #[PP b,.int .i64 a] (w.alloc (.cells #[.int .i64 a,.string f,.bool i] 127)) λe w'=>e=.returned (.bool v)/\Below (w.alloc (.cells #[.int .i64 a,.string f,.bool i] 127)).heap.size (w.alloc (.cells #[.int .i64 a,.string f,.bool i] 127)) w'):=λy=>qu3 a (q8f ⟨oe,oe⟩) _ B (hM.later m) y;have KEY:Hid (keyOf prog 3 (.int .i64 a)=some (.int .i64 a)):=q4f ⟨oe,oe⟩;have l:Hid (qd w b (yj s (.map (some A)))/\qes w A s.ws/\A≠b/\(∀k,G k↔(k=b\/k=A))/\s.opn=true/\¬s.opn=false/\¬(a<0\/8<=a)/\¬12<f.size/\0<=a/\a<8):=⟨B0,hM,hne,hG,t,u,J,P,oe,oe⟩;cases hgg:(i&&!f.toList.isEmpty)
 .have HT:Hid (¬(i=true/\f.size≠0)):=by
   cases i
   .exact TAIL false rfl (.inl rfl)
   exact TAIL true rfl (.inr (by simpa using hgg))
  cases y:decide (qay s.ws a=none/\5<=(jh s.ws).length)
  .have K:=RM.out (v:=true) (by rw[y];rfl)
   have L:Hid (qaj s ⟨a,f,i⟩=0):=by
        show _=_;unfold qaj;rw[if_neg l.out.2.2.2.2.2.1,if_neg l.out.2.2.2.2.2.2.1,if_neg l.out.2.2.2.2.2.2.2.1,if_neg HT.out,if_neg (of_decide_eq_false y)]
   have HRX:=hd1 O;have GO:Hid (∀j,Below (w.alloc (.cells #[.int .i64 a,.string f,.bool i] 127)).heap.size (w.alloc (.cells #[.int .i64 a,.string f,.bool i] 127)) j->qd j b (yj s (.map (some A)))/\qes j A s.ws/\qd j w.heap.size [.int .i64 a,.string f,.bool i]/\Bw w j):=λj z=>⟨(l.out.1.later m).later z,(l.out.2.1.later m).later z,HRX.out.later z,qa m z⟩;cases i
   .clear hgg O;go_enter func129,ntmps129;go_wp2_with fail
    refine K.mono ?_;rintro e j ⟨rfl,C⟩;obtain⟨F,Q,p,R⟩:=GO.out j C;obtain⟨S,D,H,V⟩:=Q;have q:=hd3 S H V;have W:j.drew.ownsMap prog 3 qcd A (jh s.ws).length D:=H;have X:=hd1 F;have Y:Hid ((jh s.ws).length<=8):=qkg s.ws 8;obtain⟨Z,hrun,aa,ab⟩:=W.store qtl underlying190 (by have:=Y.out;simp only[maxLen];omega) KEY.out (val:=.agg #[.int .i64 a,.string f,.bool false]) (d:=.held (.agg #[.int .i64 a,.string f,.bool false])) (ps:=[]) rfl;go_wp2_with fail
    have k9:=F.c 9;have x0:=p.c 0;have x1:=p.c 1;have x2:=p.c 2;go_region
    all_goals
     have M7:=qes.put q.out.1 q.out.2.1 q.out.2.2 (x:=⟨a,f,false⟩) l.out.2.2.2.2.2.2.2.2.1 l.out.2.2.2.2.2.2.2.2.2 aa;have o:=ab.grown;have gr:j.grownBy Z (some A):=⟨o.os,o.tape,o.output,o.size,o.block⟩;have n:=qz7 l.out.2.2.2.1 l.out.2.2.1 l.out.2.2.2.2.1 R X.out M7 gr;go_wp2_with fail
     go_ret;refine⟨by rw[L.out];rfl,?_⟩;rw[show qd2 s ⟨a,f,false⟩={s with ws:=s.ws++[⟨a,f,false⟩]} by unfold qd2;rw[if_pos L.out]];exact n
   have hee:f.toList.isEmpty=true:=by simpa using hgg
   go_enter func129,ntmps129;go_wp2_with fail
   refine K.mono ?_;rintro e j ⟨rfl,C⟩;obtain⟨F,Q,p,R⟩:=GO.out j C;obtain⟨S,D,H,V⟩:=Q;have q:=hd3 S H V;have W:j.drew.ownsMap prog 3 qcd A (jh s.ws).length D:=H;have X:=hd1 F;have Y:Hid ((jh s.ws).length<=8):=qkg s.ws 8;obtain⟨Z,hrun,aa,ab⟩:=W.store qtl underlying190 (by have:=Y.out;simp only[maxLen];omega) KEY.out (val:=.agg #[.int .i64 a,.string f,.bool true]) (d:=.held (.agg #[.int .i64 a,.string f,.bool true])) (ps:=[]) rfl;go_wp2_with fail
   have k9:=F.c 9;have x0:=p.c 0;have x1:=p.c 1;have x2:=p.c 2;go_region
   all_goals
        have M7:=qes.put q.out.1 q.out.2.1 q.out.2.2 (x:=⟨a,f,true⟩) l.out.2.2.2.2.2.2.2.2.1 l.out.2.2.2.2.2.2.2.2.2 aa;have o:=ab.grown;have gr:j.grownBy Z (some A):=⟨o.os,o.tape,o.output,o.size,o.block⟩;have n:=qz7 l.out.2.2.2.1 l.out.2.2.1 l.out.2.2.2.2.1 R X.out M7 gr;go_wp2_with fail
        go_ret;refine⟨by rw[L.out];rfl,?_⟩;rw[show qd2 s ⟨a,f,true⟩={s with ws:=s.ws++[⟨a,f,true⟩]} by unfold qd2;rw[if_pos L.out]];exact n
  have K:=RM.out (v:=false) (by rw[y];rfl);have E:qaj s ⟨a,f,i⟩=12:=by unfold qaj;rw[if_neg u,if_neg J,if_neg P,if_neg HT.out,if_pos (of_decide_eq_true y)]
  have n:Hid (∀j,Below (w.alloc (.cells #[.int .i64 a,.string f,.bool i] 127)).heap.size (w.alloc (.cells #[.int .i64 a,.string f,.bool i] 127)) j->(.returned (jc 12):Ending)=.returned (jc (qaj s ⟨a,f,i⟩))/\qc8 w b G (qd2 s ⟨a,f,i⟩) j):=λj z=>(r.out _ 12 E oj (qa m z)).out;cases i
  all_goals
   (try have hee:f.toList.isEmpty=true:=by simpa using hgg)
   go_enter func129,ntmps129;go_wp2_with fail
   refine K.mono ?_;rintro e j ⟨rfl,C⟩;go_wp2_with fail
   go_ret;exact n.out j C
 simp only[jct,Bool.not_eq_true']at hgg;obtain⟨rfl,hee⟩:=hgg;have E:qaj s ⟨a,f,true⟩=1:=by unfold qaj;rw[if_neg u,if_neg J,if_neg P,if_pos ⟨rfl,qxq hee⟩]
 have n:=(r.out _ 1 E oj m).out;all_goals
  go_enter func129,ntmps129;go_wp2_with fail
  go_ret;exact n
end
def jw (n:Int):Nat:=min 4 n.toNat
section
open _root_.Go.Proofs.Tryz
def qln (x y:Int) (w:Wl):
 Ca 175 #[U x,U y] w λe w'=>e=.returned (U (qm x y))/\w'=w:=by
 by_cases h:y<x
 .rw[qj1 h];go_enter func175,ntmps175;go_wp2;go_ret;exact⟨rfl,rfl⟩
 rw[qjp h];go_enter func175,ntmps175;go_wp2;go_ret;exact⟨rfl,rfl⟩
def q7f (a0 a1 a2 a3 a b c d:Int) (w:Wl):
 Ca 174 #[.agg #[U a0,U a1,U a2,U a3],.agg #[U a,U b,U c,U d],.func (.func 175) #[] #[]] w (Rn (.agg #[U (qm a0 a),U (qm a1 b),U (qm a2 c),U (qm a3 d)]) w):=by
 go_enter func174,ntmps174;go_wp2;refine wp_loop_rounds 5 ?_;rw[rounds_succ];go_wp2;go_region_held3 (λw'=>w'.cell? (AD w.heap.size 0)=some (U a0)/\w'.cell? (AD w.heap.size 1)=some (U a1)/\w'.cell? (AD w.heap.size 2)=some (U a2)/\w'.cell? (AD w.heap.size 3)=some (U a3)/\w'.cell? (AD (w.heap.size+1) 0)=some (U a)/\w'.cell? (AD (w.heap.size+1) 1)=some (U b)/\w'.cell? (AD (w.heap.size+1) 2)=some (U c)/\w'.cell? (AD (w.heap.size+1) 3)=some (U d)) (go_keep) ((go_at_call 175;refine(qln _ _ _).mono ?_;rintro e wc ⟨rfl,rfl⟩))
 go_wp2;rw[rounds_succ];go_wp2;go_region_held3 (λw'=>w'.cell? (AD w.heap.size 0)=some (U a0)/\w'.cell? (AD w.heap.size 1)=some (U a1)/\w'.cell? (AD w.heap.size 2)=some (U a2)/\w'.cell? (AD w.heap.size 3)=some (U a3)/\w'.cell? (AD (w.heap.size+1) 0)=some (U a)/\w'.cell? (AD (w.heap.size+1) 1)=some (U b)/\w'.cell? (AD (w.heap.size+1) 2)=some (U c)/\w'.cell? (AD (w.heap.size+1) 3)=some (U d)) (go_keep) ((go_at_call 175;refine(qln _ _ _).mono ?_;rintro e wc ⟨rfl,rfl⟩))
 go_wp2;rw[rounds_succ];go_wp2;go_region_held3 (λw'=>w'.cell? (AD w.heap.size 0)=some (U a0)/\w'.cell? (AD w.heap.size 1)=some (U a1)/\w'.cell? (AD w.heap.size 2)=some (U a2)/\w'.cell? (AD w.heap.size 3)=some (U a3)/\w'.cell? (AD (w.heap.size+1) 0)=some (U a)/\w'.cell? (AD (w.heap.size+1) 1)=some (U b)/\w'.cell? (AD (w.heap.size+1) 2)=some (U c)/\w'.cell? (AD (w.heap.size+1) 3)=some (U d)) (go_keep) ((go_at_call 175;refine(qln _ _ _).mono ?_;rintro e wc ⟨rfl,rfl⟩))
 go_wp2;rw[rounds_succ];go_wp2;go_region_held3 (λw'=>w'.cell? (AD w.heap.size 0)=some (U a0)/\w'.cell? (AD w.heap.size 1)=some (U a1)/\w'.cell? (AD w.heap.size 2)=some (U a2)/\w'.cell? (AD w.heap.size 3)=some (U a3)/\w'.cell? (AD (w.heap.size+1) 0)=some (U a)/\w'.cell? (AD (w.heap.size+1) 1)=some (U b)/\w'.cell? (AD (w.heap.size+1) 2)=some (U c)/\w'.cell? (AD (w.heap.size+1) 3)=some (U d)) (go_keep) ((go_at_call 175;refine(qln _ _ _).mono ?_;rintro e wc ⟨rfl,rfl⟩))
 go_wp2;rw[rounds_succ];go_wp2;exact bodyPost_ret (v:=.agg #[U (qm a0 a),U (qm a1 b),U (qm a2 c),U (qm a3 d)]) (by simp[results,results174,go_sem]) rfl ⟨rfl,by repeat (first|exact jcc _ _|apply jc6|apply boxed)⟩
def qn5 (a0 a1 a2 a3 a b c d:Int) (w:Wl):
 Ca 139 #[.agg #[U a0,U a1,U a2,U a3],.agg #[U a,U b,U c,U d]] w (Rn (.agg #[U (qm a0 a),U (qm a1 b),U (qm a2 c),U (qm a3 d)]) w):=by
 go_enter func139,ntmps139;go_wp2_with fail
 refine(q7f _ _ _ _ _ _ _ _ _).mono ?_;rintro e g ⟨rfl,f⟩;obtain⟨h,i⟩:=qdb f;have j:w.heap.size+2<g.heap.size:=by have:=f.size;simp at this;omega
 go_wp2;exact bodyPost_ret (v:=.agg #[U (qm a0 a),U (qm a1 b),U (qm a2 c),U (qm a3 d)]) (by simp[results,results139,go_sem,h]) rfl ⟨rfl,((((qs1 f).setCell ou _).setCell ou _).setCell ou _).setCell ou _⟩
variable {lv:Vl} {bm:Nat}
def qk1 {k:Nat} (a:k<4):(qab S lv bm)[9+k*4]?=some (U (S.oth (k*4)))/\(qab S lv bm)[9+k*4+1]?=some (U (S.oth (k*4+1)))/\(qab S lv bm)[9+k*4+2]?=some (U (S.oth (k*4+2)))/\(qab S lv bm)[9+k*4+3]?=some (U (S.oth (k*4+3))):=by
 match k,a with
 |0,_=>exact⟨rfl,rfl,rfl,rfl⟩
 |1,_=>exact⟨rfl,rfl,rfl,rfl⟩
 |2,_=>exact⟨rfl,rfl,rfl,rfl⟩
 |3,_=>exact⟨rfl,rfl,rfl,rfl⟩
def q3g {log waits:List TxM} (a:Int) (w:Wl) (h:zf w b lv bm F S log waits) (h4:4<a):
 Ca 138 #[PP b,U a] w λe w'=>
  e=.returned (.agg #[U (qj S (jw a)).v0,U (qj S (jw a)).v1,U (qj S (jw a)).v2,U (qj S (jw a)).v3])/\Bw w w':=by
 have H:=(qo.new w 113 0 0 0 0).boxed (.cells #[U S.a0,U S.a1,U S.a2,U S.a3] 113);have I:=qo.newest (w:=w.alloc (.cells #[U 0,U 0,U 0,U 0] 113)) (T:=113) (n:=w.heap.size+1) (a0:=S.a0) (a1:=S.a1) (a2:=S.a2) (a3:=S.a3) oi;have J:=boxed (boxed (jcc _ w) (.cells #[U 0,U 0,U 0,U 0] 113)) (.cells #[U S.a0,U S.a1,U S.a2,U S.a3] 113);have R:=hd1 h;have K:=h.box.lt;have V:=h.box.c 1;have X:=h.box.c 2;have Y:=h.box.c 3;have Z:=h.box.c 4;clear h;go_enter func138,ntmps138;go_wp2_with fail
 have t:Hid (StM w S 0 ((w.alloc (.cells #[U 0,U 0,U 0,U 0] 113)).alloc (.cells #[U S.a0,U S.a1,U S.a2,U S.a3] 113))):=⟨H,I,J⟩;obtain⟨W,L⟩:∃W,(w.alloc (.cells #[U 0,U 0,U 0,U 0] 113)).alloc (.cells #[U S.a0,U S.a1,U S.a2,U S.a3] 113)=W:=⟨_,rfl⟩;rw[L]at t ⊢;clear L H I J V X Y Z K;go_loopw [13] (λiv wr=>∃(k:Nat) (z:Int),k<=(jw a)/\z=k/\iv=U z/\Hid (StM w S k wr)) (λi _=>4-(intOf i).toNat)
 case atStart=>exact⟨0,0,oe,rfl,rfl,t⟩
 clear t;obtain⟨k,z,hk,q,rfl,d⟩:=hrel;have M:=hd1 q;have hcut:(jw a)=min 4 a.toNat:=rfl;by_cases K:k<(jw a)
 .have h1:z<a:=oe;have h2:z<4:=oe;have h5:0<=z:=oe;have h6:z.toNat=k:=oe;have A:k<4:=oe;clear hcut;have g:=R.out.later d.out.b;have i0:=g.box.c 0;by_cases u:z=S.id
  .have e:Hid (qj S (k+1)=qj S k):=by
        show qj S (k+1)=qj S k
        have:(k:Int)=S.id:=oe;simp[qj,this]
   have AM2:Hid (StM w S (k+1) wr):=⟨d.out.r,by rw[e.out];exact d.out.v,d.out.b⟩;have hd:(z==S.id)=true:=by simp[u]
   clear q g;go_wp2_with fail
   go_roundw
   case rel=>exact⟨k+1,z+1,oe,by have:=M.out;omega,oI,AM2⟩
   simp[intOf];omega
  have hd:(z==S.id)=false:=by simp[u]
  obtain⟨N,O,P,Q⟩:=qk1 (S:=S) (lv:=lv) (bm:=bm) A;have q0:=g.box.cell _ _ N;have q1:=g.box.cell _ _ O;have q2:=g.box.cell _ _ P;have q3:=g.box.cell _ _ Q;obtain⟨⟨j,l,m,o⟩,y⟩:∃v,qj S k=v:=⟨_,rfl⟩;obtain⟨p0,B⟩:∃x,S.oth (k*4)=x:=⟨_,rfl⟩;obtain⟨p1,C⟩:∃x,S.oth (k*4+1)=x:=⟨_,rfl⟩;obtain⟨p2,D⟩:∃x,S.oth (k*4+2)=x:=⟨_,rfl⟩;obtain⟨p3,E⟩:∃x,S.oth (k*4+3)=x:=⟨_,rfl⟩;have EQ:Hid (qj S (k+1)=⟨qm j p0,qm l p1,qm m p2,qm o p3⟩):=by
   show qj S (k+1)=_
   have:¬(k:Int)=S.id:=oe;simp[qj,this,y,B,C,D,E]
  rw[B]at q0;rw[C]at q1;rw[D]at q2;rw[E]at q3;have p:qo wr (w.heap.size+1) j l m o:=by have:=d.out.v;rw[y]at this;exact this
  have x0:=p.c0;have x1:=p.c1;have x2:=p.c2;have x3:=p.c3;have PU:Hid (Ca 139 #[.agg #[U j,U l,U m,U o],.agg #[U p0,U p1,U p2,U p3]] wr.drew λe w'=>e=.returned (.agg #[U (qm j p0),U (qm l p1),U (qm m p2),U (qm o p3)])/\qo w' w.heap.size 0 0 0 0/\qo w' (w.heap.size+1) j l m o/\Bw w w'):=
   (qn5 j l m o p0 p1 p2 p3 wr.drew).mono λe w' ⟨he,G⟩=>⟨he,qo.later G d.out.r.drew,qo.later G p.drew,qa d.out.b.drew G⟩
  have hB:w.heap.size<=w.heap.size+1:=oe;have hBB:=d.out.b.drew;clear q g N O P Q y B C D E p d u;go_wp2_with fail
  go_region_with
   (first|(go_at_call 139;with_reducible refine PU.out.mono ?_;rintro e w5 ⟨rfl,RR5,f,hb5⟩;have y0:=f.c0;have y1:=f.c1;have y2:=f.c2;have y3:=f.c3;have z0:=f.f0;have z1:=f.f1;have z2:=f.f2;have z3:=f.f3))
  all_goals
   have SM:Hid (StM w S (k+1) ((((w5.setCell (AD (w.heap.size+1) 0) (U (qm j p0))).setCell (AD (w.heap.size+1) 1) (U (qm l p1))).setCell (AD (w.heap.size+1) 2) (U (qm m p2))).setCell (AD (w.heap.size+1) 3) (U (qm o p3)))):=
        ⟨RR5.far4 oe,by rw[EQ.out];exact f.set,qj9 hb5 hB _ _ _ _⟩
   go_wp2_with fail
   go_roundw
   case rel=>exact⟨k+1,z+1,oe,by have:=M.out;omega,oI,SM⟩
   simp[intOf];omega
 have hke:k=(jw a):=oe;have h2:¬z<4:=oe;clear hcut;subst hke;have r0:=d.out.r.c0;have r1:=d.out.r.c1;have r2:=d.out.r.c2;have r3:=d.out.r.c3;have f0:=d.out.r.f0;have f1:=d.out.r.f1;have f2:=d.out.r.f2;have f3:=d.out.r.f3;have x0:=d.out.v.c0;have x1:=d.out.v.c1;have x2:=d.out.v.c2;have x3:=d.out.v.c3;have s:=d.out.r.set (x0:=(qj S (jw a)).v0) (x1:=(qj S (jw a)).v1) (x2:=(qj S (jw a)).v2) (x3:=(qj S (jw a)).v3);have hbZ:=qj9 d.out.b (jcd _) (qj S (jw a)).v0 (qj S (jw a)).v1 (qj S (jw a)).v2 (qj S (jw a)).v3;have g0:=s.c0;have g1:=s.c1;have g2:=s.c2;have g3:=s.c3;clear q;go_wp2_with fail
 exact bodyPost_ret (v:=.agg #[U (qj S (jw a)).v0,U (qj S (jw a)).v1,U (qj S (jw a)).v2,U (qj S (jw a)).v3]) (by simp[results,results138,go_sem,g0,g1,g2,g3]) rfl ⟨rfl,hbZ⟩
def q21 {log waits:List TxM} (a:Int) (w:Wl) (h:zf w b lv bm F S log waits) (h4:¬4<a):
 Ca 138 #[PP b,U a] w λe w'=>
  e=.returned (.agg #[U (qj S (jw a)).v0,U (qj S (jw a)).v1,U (qj S (jw a)).v2,U (qj S (jw a)).v3])/\Bw w w':=by
 have H:=(qo.new w 113 0 0 0 0).boxed (.cells #[U S.a0,U S.a1,U S.a2,U S.a3] 113);have I:=qo.newest (w:=w.alloc (.cells #[U 0,U 0,U 0,U 0] 113)) (T:=113) (n:=w.heap.size+1) (a0:=S.a0) (a1:=S.a1) (a2:=S.a2) (a3:=S.a3) oi;have J:=boxed (boxed (jcc _ w) (.cells #[U 0,U 0,U 0,U 0] 113)) (.cells #[U S.a0,U S.a1,U S.a2,U S.a3] 113);have R:=hd1 h;have K:=h.box.lt;have V:=h.box.c 1;have X:=h.box.c 2;have Y:=h.box.c 3;have Z:=h.box.c 4;clear h;go_enter func138,ntmps138;go_wp2_with fail
 have t:Hid (StM w S 0 ((w.alloc (.cells #[U 0,U 0,U 0,U 0] 113)).alloc (.cells #[U S.a0,U S.a1,U S.a2,U S.a3] 113))):=⟨H,I,J⟩;obtain⟨W,L⟩:∃W,(w.alloc (.cells #[U 0,U 0,U 0,U 0] 113)).alloc (.cells #[U S.a0,U S.a1,U S.a2,U S.a3] 113)=W:=⟨_,rfl⟩;rw[L]at t ⊢;clear L H I J V X Y Z K;go_loopw [13] (λiv wr=>∃(k:Nat) (z:Int),k<=(jw a)/\z=k/\iv=U z/\Hid (StM w S k wr)) (λi _=>4-(intOf i).toNat)
 case atStart=>exact⟨0,0,oe,rfl,rfl,t⟩
 clear t;obtain⟨k,z,hk,q,rfl,d⟩:=hrel;have M:=hd1 q;have hcut:(jw a)=min 4 a.toNat:=rfl;by_cases K:k<(jw a)
 .have h1:z<a:=oe;have h2:z<4:=oe;have h5:0<=z:=oe;have h6:z.toNat=k:=oe;have A:k<4:=oe;clear hcut;have g:=R.out.later d.out.b;have i0:=g.box.c 0;by_cases u:z=S.id
  .have e:Hid (qj S (k+1)=qj S k):=by
        show qj S (k+1)=qj S k
        have:(k:Int)=S.id:=oe;simp[qj,this]
   have AM2:Hid (StM w S (k+1) wr):=⟨d.out.r,by rw[e.out];exact d.out.v,d.out.b⟩;have hd:(z==S.id)=true:=by simp[u]
   clear q g;go_wp2_with fail
   go_roundw
   case rel=>exact⟨k+1,z+1,oe,by have:=M.out;omega,oI,AM2⟩
   simp[intOf];omega
  have hd:(z==S.id)=false:=by simp[u]
  obtain⟨N,O,P,Q⟩:=qk1 (S:=S) (lv:=lv) (bm:=bm) A;have q0:=g.box.cell _ _ N;have q1:=g.box.cell _ _ O;have q2:=g.box.cell _ _ P;have q3:=g.box.cell _ _ Q;obtain⟨⟨j,l,m,o⟩,y⟩:∃v,qj S k=v:=⟨_,rfl⟩;obtain⟨p0,B⟩:∃x,S.oth (k*4)=x:=⟨_,rfl⟩;obtain⟨p1,C⟩:∃x,S.oth (k*4+1)=x:=⟨_,rfl⟩;obtain⟨p2,D⟩:∃x,S.oth (k*4+2)=x:=⟨_,rfl⟩;obtain⟨p3,E⟩:∃x,S.oth (k*4+3)=x:=⟨_,rfl⟩;have EQ:Hid (qj S (k+1)=⟨qm j p0,qm l p1,qm m p2,qm o p3⟩):=by
   show qj S (k+1)=_
   have:¬(k:Int)=S.id:=oe;simp[qj,this,y,B,C,D,E]
  rw[B]at q0;rw[C]at q1;rw[D]at q2;rw[E]at q3;have p:qo wr (w.heap.size+1) j l m o:=by have:=d.out.v;rw[y]at this;exact this
  have x0:=p.c0;have x1:=p.c1;have x2:=p.c2;have x3:=p.c3;have PU:Hid (Ca 139 #[.agg #[U j,U l,U m,U o],.agg #[U p0,U p1,U p2,U p3]] wr.drew λe w'=>e=.returned (.agg #[U (qm j p0),U (qm l p1),U (qm m p2),U (qm o p3)])/\qo w' w.heap.size 0 0 0 0/\qo w' (w.heap.size+1) j l m o/\Bw w w'):=
   (qn5 j l m o p0 p1 p2 p3 wr.drew).mono λe w' ⟨he,G⟩=>⟨he,qo.later G d.out.r.drew,qo.later G p.drew,qa d.out.b.drew G⟩
  have hB:w.heap.size<=w.heap.size+1:=oe;have hBB:=d.out.b.drew;clear q g N O P Q y B C D E p d u;go_wp2_with fail
  go_region_with
   (first|(go_at_call 139;with_reducible refine PU.out.mono ?_;rintro e w5 ⟨rfl,RR5,f,hb5⟩;have y0:=f.c0;have y1:=f.c1;have y2:=f.c2;have y3:=f.c3;have z0:=f.f0;have z1:=f.f1;have z2:=f.f2;have z3:=f.f3))
  all_goals
   have SM:Hid (StM w S (k+1) ((((w5.setCell (AD (w.heap.size+1) 0) (U (qm j p0))).setCell (AD (w.heap.size+1) 1) (U (qm l p1))).setCell (AD (w.heap.size+1) 2) (U (qm m p2))).setCell (AD (w.heap.size+1) 3) (U (qm o p3)))):=
        ⟨RR5.far4 oe,by rw[EQ.out];exact f.set,qj9 hb5 hB _ _ _ _⟩
   go_wp2_with fail
   go_roundw
   case rel=>exact⟨k+1,z+1,oe,by have:=M.out;omega,oI,SM⟩
   simp[intOf];omega
 have hke:k=(jw a):=oe;have h1:¬z<a:=oe;clear hcut;subst hke;have r0:=d.out.r.c0;have r1:=d.out.r.c1;have r2:=d.out.r.c2;have r3:=d.out.r.c3;have f0:=d.out.r.f0;have f1:=d.out.r.f1;have f2:=d.out.r.f2;have f3:=d.out.r.f3;have x0:=d.out.v.c0;have x1:=d.out.v.c1;have x2:=d.out.v.c2;have x3:=d.out.v.c3;have s:=d.out.r.set (x0:=(qj S (jw a)).v0) (x1:=(qj S (jw a)).v1) (x2:=(qj S (jw a)).v2) (x3:=(qj S (jw a)).v3);have hbZ:=qj9 d.out.b (jcd _) (qj S (jw a)).v0 (qj S (jw a)).v1 (qj S (jw a)).v2 (qj S (jw a)).v3;have g0:=s.c0;have g1:=s.c1;have g2:=s.c2;have g3:=s.c3;clear q;go_wp2_with fail
 exact bodyPost_ret (v:=.agg #[U (qj S (jw a)).v0,U (qj S (jw a)).v1,U (qj S (jw a)).v2,U (qj S (jw a)).v3]) (by simp[results,results138,go_sem,g0,g1,g2,g3]) rfl ⟨rfl,hbZ⟩
def qzh {log waits:List TxM} (a:Int) (w:Wl) (h:zf w b lv bm F S log waits):
 Ca 138 #[PP b,U a] w λe w'=>
  e=.returned (.agg #[U (qj S (jw a)).v0,U (qj S (jw a)).v1,U (qj S (jw a)).v2,U (qj S (jw a)).v3])/\Bw w w':=by
 by_cases c:4<a
 .exact q3g a w h c
 exact q21 a w h c
end
section
open _root_.Go.Proofs.Tryz
def zf.know {w:Wl} {o:Vl} {q:Nat} {F:Np} {log waits:List TxM} (h:zf w b o q F S log waits) {k:Nat} (a:k<4) (d e i m:Int):
 zf ((((w.setCell (AD b (9+k*4)) (U (jd (S.oth (k*4)) d))).setCell (AD b (9+k*4+1)) (U (jd (S.oth (k*4+1)) e))).setCell (AD b (9+k*4+2)) (U (jd (S.oth (k*4+2)) i))).setCell (AD b (9+k*4+3)) (U (jd (S.oth (k*4+3)) m))) b o q F (vp S k d e i m) log waits:=by
 have a1:=h.cell (S':={S with oth:=λj=>if j=k*4 then jd (S.oth j) d else S.oth j}) (9+k*4) (U (jd (S.oth (k*4)) d)) oe (by match k,a with|0,_=>rfl|1,_=>rfl|2,_=>rfl|3,_=>rfl) rfl;have a2:=a1.cell (S':={S with oth:=λj=>if j=k*4 then jd (S.oth j) d else if j=k*4+1 then jd (S.oth j) e else S.oth j}) (9+k*4+1) (U (jd (S.oth (k*4+1)) e)) oe (by match k,a with|0,_=>rfl|1,_=>rfl|2,_=>rfl|3,_=>rfl) rfl;have a3:=a2.cell (S':={S with oth:=λj=>if j=k*4 then jd (S.oth j) d else if j=k*4+1 then jd (S.oth j) e else if j=k*4+2 then jd (S.oth j) i else S.oth j}) (9+k*4+2) (U (jd (S.oth (k*4+2)) i)) oe (by match k,a with|0,_=>rfl|1,_=>rfl|2,_=>rfl|3,_=>rfl) rfl;exact a3.cell (S':=vp S k d e i m) (9+k*4+3) (U (jd (S.oth (k*4+3)) m)) oe (by match k,a with|0,_=>rfl|1,_=>rfl|2,_=>rfl|3,_=>rfl) rfl
def q3d {G:Nat->Prop} {n:Int} (J:0<=n) (K:n<4) (A x1 x2 x3:Int) (w:Wl) (h:PS w b G S):
 Ca 204 #[PP b,U n,.agg #[U A,U x1,U x2,U x3]] w λe w'=>e=.returned (jc 0)/\PPo w b G (vp S n.toNat A x1 x2 x3) w':=by
 have L:=qp2 (n:=n) (v:=true) (by simp[J,K]) (w.alloc (.cells #[U A,U x1,U x2,U x3] 113));have s:=boxed (jcc _ w) (.cells #[U A,U x1,U x2,U x3] 113);have M:=qd.new (w:=w) (T:=113) [U A,U x1,U x2,U x3] rfl;obtain⟨k,N⟩:∃k,n.toNat=k:=⟨_,rfl⟩;have l:k<4:=oe;obtain⟨lv,bm,F,log,waits,t,O,P,u⟩:=h;have y:Hid (∀W,Bw w W->∀W',W'=((((W.setCell (AD b (9+k*4)) (U (jd (S.oth (k*4)) A))).setCell (AD b (9+k*4+1)) (U (jd (S.oth (k*4+1)) x1))).setCell (AD b (9+k*4+2)) (U (jd (S.oth (k*4+2)) x2))).setCell (AD b (9+k*4+3)) (U (jd (S.oth (k*4+3)) x3)))->PPo w b G (vp S n.toNat A x1 x2 x3) W'):=λW c W' e=>by
  rw[N];have z:=(t.later c).know l A x1 x2 x3;have d:=(u b).2 (.inl (.inl rfl));have Q:qc G W W':=by
   rw[e];exact(((qc.setCell W (AD b (9+k*4)) _ d).trans (qc.setCell _ (AD b (9+k*4+1)) _ d)).trans (qc.setCell _ (AD b (9+k*4+2)) _ d)).trans (qc.setCell _ (AD b (9+k*4+3)) _ d)
  rw[<-e]at z;exact⟨G,⟨lv,bm,F,log,waits,z,O,P,u⟩,λj m=>.inl m,(qc.ofBelow c).more Q (λj m=>.inl m)⟩
 obtain⟨o,p,q,r⟩:=qk1 (S:=S) (lv:=lv) (bm:=bm) l;have B:Hid (∀W,Bw w W->zf W b lv bm F S log waits):=λW c=>t.later c;obtain⟨p0,C⟩:∃x,S.oth (k*4)=x:=⟨_,rfl⟩;obtain⟨p1,D⟩:∃x,S.oth (k*4+1)=x:=⟨_,rfl⟩;obtain⟨p2,E⟩:∃x,S.oth (k*4+2)=x:=⟨_,rfl⟩;obtain⟨p3,H⟩:∃x,S.oth (k*4+3)=x:=⟨_,rfl⟩;rw[C]at o;rw[D]at p;rw[E]at q;rw[H]at r;rw[C,D,E,H]at y;have R:=s.drew;have V:Hid (Ca 185 #[.agg #[U p0,U p1,U p2,U p3],.agg #[U A,U x1,U x2,U x3]] (w.alloc (.cells #[U A,U x1,U x2,U x3] 113)).drew (Rn (.agg #[U (jd p0 A),U (jd p1 x1),U (jd p2 x2),U (jd p3 x3)]) w)):=(qzz p0 p1 p2 p3 A x1 x2 x3 _).mono λe w' ⟨X,Y⟩=>⟨X,qa R Y⟩;have f:=(B.out _ s).box;have q0:=f.cell _ _ o;have q1:=f.cell _ _ p;have q2:=f.cell _ _ q;have q3:=f.cell _ _ r;obtain⟨r0,r1,r2,r3⟩:=M.c4;have g:=hd4 o p q r;have i:=hd1 l;go_enter func204,ntmps204
 go_wp2_with fail
 refine L.mono ?_;rintro e w2 ⟨rfl,rfl⟩;go_wp2_with fail
 go_region_law (first
  |(refine je rfl 185 #[.agg #[U p0,U p1,U p2,U p3],.agg #[U A,U x1,U x2,U x3]] (by go_simp) V.out ?_
    rintro e Z ⟨rfl,I⟩;refine⟨_,rfl,?_⟩;have a:=(B.out _ I).box;have s0:=a.cell _ _ g.out.1;have s1:=a.cell _ _ g.out.2.1;have s2:=a.cell _ _ g.out.2.2.1;have s3:=a.cell _ _ g.out.2.2.2;have f0:=a.free (9+k*4) (by have:=i.out;simp[qab];omega);have f1:=a.free (9+k*4+1) (by have:=i.out;simp[qab];omega);have f2:=a.free (9+k*4+2) (by have:=i.out;simp[qab];omega);have f3:=a.free (9+k*4+3) (by have:=i.out;simp[qab];omega);clear a))
 all_goals
  have aa:=y.out Z I _ rfl;go_wp2_with fail
  go_ret;exact⟨rfl,aa⟩
end
def qlv (a0 a1 a2 a3:Int) (l:List Hd) (k:Nat):Lv:=qej a0 a1 a2 a3 l k++List.replicate (8-k) (.string ⟨#[]⟩)
def qij (a0 a1 a2 a3:Int) (l:List Hd) (k:Nat):(qej a0 a1 a2 a3 l k).length=k:=by simp[qej]
def q38 (a:k<8):(qlv a0 a1 a2 a3 l k).set k (.string (qdf a0 a1 a2 a3 l k))=qlv a0 a1 a2 a3 l (k+1):=by
 unfold qlv;rw[List.set_append_right _ _ (by rw[qij];omega),qij,Nat.sub_self,qi3,show 8-k=8-(k+1)+1 by omega,List.replicate_succ,List.set_cons_zero,jcy];rfl
def q25 (a:k<8) (h:qdf a0 a1 a2 a3 l k=⟨#[]⟩):qlv a0 a1 a2 a3 l k=qlv a0 a1 a2 a3 l (k+1):=by
 unfold qlv;rw[qi3,h,show 8-k=8-(k+1)+1 by omega,List.replicate_succ,jcy];rfl
section
open _root_.Go.Proofs.Tryz
def q6v {b L:Nat} {F:Np} {l:List Hd} (a0 a1 a2 a3:Int) (w:Wl) (M:qir w b L F l) (hl:l.length<=1000) (N:qfk l) (O:∀h∈l,qau h.v=true):
 Ca 172 #[.pointer (some (AD b L)),.agg #[U a0,U a1,U a2,U a3]] w λe w'=>∃v,e=.returned v/\w'.ownsRow w.heap.size 9 1 v 8 (qej a0 a1 a2 a3 l 8)/\Bw w w':=by
 have m:=qd.new (w:=w) (T:=113) [U a0,U a1,U a2,U a3] rfl;have a:=boxed (jcc _ w) (.cells #[U a0,U a1,U a2,U a3] 113);have Q:=hd1 M;have HA:=hd1 N;have R:=hd1 O;clear M N O;obtain⟨i0,hi,S,V,W⟩:=info_parts qki;obtain⟨X,B,C,D⟩:=run_make_full (P:=prog) (w.alloc (.cells #[U a0,U a1,U a2,U a3] 113)) w.heap.size 22 9 i0 (.string ⟨#[]⟩) 1 underlying22 hi S V .i64 .i64 8 (by rw[W];decide) (by simp[maxLen]) oi;have hmk2:(Instr.makeSlice 22 (U 8) (U 8)).run prog (w.alloc (.cells #[U a0,U a1,U a2,U a3] 113))=.ok (.slice (PT (w.heap.size+1)) 8 8) X:=by
  rw[jdi]at B;exact B
 have Y:X.ownsRow w.heap.size 9 1 (.slice (PT (w.heap.size+1)) 8 8) 8 (qlv a0 a1 a2 a3 l 0):=by
  rw[jdi,show (Value.string ⟨#[]⟩).cells=#[Value.string ⟨#[]⟩]from rfl,toList_madeCells_one]at C;exact C
 have Z:=m.grown D oi;have f:=a.grown D a.size (λk e=>oJ);clear B C m a D hi S V W;go_enter func172,ntmps172;go_wp2_with fail
 clear hmk2;go_loopw [12] (λiv wr=>∃(k:Nat) (z:Int),k<=8/\z=k/\iv=U z/\wr.ownsRow w.heap.size 9 1 (.slice (PT (w.heap.size+1)) 8 8) 8 (qlv a0 a1 a2 a3 l k)/\qd wr w.heap.size [U a0,U a1,U a2,U a3]/\Bw w wr) (λi _=>8-(intOf i).toNat)
 case atStart=>exact⟨0,0,oe,rfl,rfl,Y,Z,f⟩
 clear Y Z f;obtain⟨k,z,hk,E,rfl,g,m,a⟩:=hrel;have s:=hd1 E;by_cases aa:k<8
 .have h1:z<8:=oe;have h3:0<=z:=oe;have h2:z.toNat=k:=oe;have S4:=Q.out.kept (λj G=>a.block j (Q.out.lt j G)) a.size;obtain⟨c0,c1,c2,c3⟩:=m.c4;clear E;go_wp2_with fail
  refine(qq1 z a0 a1 a2 a3 _ S4 hl HA.out R.out).mono ?_;rintro e w2 ⟨rfl,f⟩;clear c0 c1 c2 c3 S4;have H:=qoc (key:=z) (a0:=a0) (a1:=a1) (a2:=a2) (a3:=a3) R.out;have r:Hid (qdf a0 a1 a2 a3 l k=if (zz z a0 a1 a2 a3 l).2=0 then (⟨#[61]⟩:By)++(zz z a0 a1 a2 a3 l).1.data else ⟨#[]⟩):=by
   show qdf a0 a1 a2 a3 l k=_;rw[s.out];rfl
  obtain⟨⟨rv,I⟩,hrd⟩:∃x,zz z a0 a1 a2 a3 l=x:=⟨_,rfl⟩;rw[hrd]at r H ⊢;simp only at r H ⊢;clear hrd;obtain⟨n,o,bs,p,d,q⟩:=rv;simp only at r H;rw[show qh ⟨n,o,bs,p,d,q⟩=[U n,U o,U bs,U p,.string d,.bool q]from rfl];replace m:=(m.later f).boxed (.cells #[U n,U o,U bs,U p,.string d,.bool q] 218);have A:=g.kept (row:=none) ⟨f.os,f.tape,f.output,f.size,λj G _=>f.block j G⟩ oS;replace g:=A.alloc (.cells #[U n,U o,U bs,U p,.string d,.bool q] 218);replace a:=boxed (qa a f) (.cells #[U n,U o,U bs,U p,.string d,.bool q] 218);have RB:=qd.new (w:=w2) (T:=218) [U n,U o,U bs,U p,.string d,.bool q] rfl;clear f A;have d3:=RB.c 4;clear RB;by_cases J:I=0
  .subst J;have K:Hid (qdf a0 a1 a2 a3 l k=(⟨#[61]⟩:By)++d):=by show qdf a0 a1 a2 a3 l k=_;rw[r.out,if_pos rfl]
   have ad:=λw=>qfi (P:=prog) (⟨#[61]⟩:By) d (by have z:(⟨#[61]⟩:By).size=1:=rfl;omega) w;have ev:jc 0=.nilIface:=rfl;rw[ev];have cc:=g.cellAt k oe;have cx:∃u,(qlv a0 a1 a2 a3 l k)[k]?=some u:=⟨_,jcg (by simp[qlv,qij];omega)⟩;obtain⟨ux,hux⟩:=cx;rw[hux]at cc;have ff:=g.frozenAt k;have y:=g.stored k (.string ((⟨#[61]⟩:By)++d));have hbl:=m.lt;have RA9:=m.grown y.2 oi;have hb9:=a.grown y.2 (by have:=a.size;omega) (λj e=>by cases e;omega)
   have t:((w2.alloc (.cells #[U n,U o,U bs,U p,.string d,.bool q] 218)).setCell (AD (w.heap.size+1) k) (.string ((⟨#[61]⟩:By)++d))).ownsRow w.heap.size 9 1 (.slice (PT (w.heap.size+1)) 8 8) 8 (qlv a0 a1 a2 a3 l (k+1)):=by
        rw[<-q38 aa,K.out];exact y.1
   clear r hux y g;go_wp2_with fail
   go_roundw
   case rel=>exact⟨k+1,z+1,oe,by have:=s.out;omega,oI,t,RA9,hb9⟩
   simp[intOf];have:=s.out;omega
  have ev:jc I=.iface 30 (U I):=by unfold jc;rw[if_neg J]
  rw[ev];have K:Hid (qdf a0 a1 a2 a3 l k=⟨#[]⟩):=by show qdf a0 a1 a2 a3 l k=_;rw[r.out,if_neg J]
  have t:(w2.alloc (.cells #[U n,U o,U bs,U p,.string d,.bool q] 218)).ownsRow w.heap.size 9 1 (.slice (PT (w.heap.size+1)) 8 8) 8 (qlv a0 a1 a2 a3 l (k+1)):=by
   rw[<-q25 aa K.out];exact g
  clear r g ev;go_wp2_with fail
  go_roundw
  case rel=>exact⟨k+1,z+1,oe,by have:=s.out;omega,oI,t,m,a⟩
  simp[intOf];have:=s.out;omega
 obtain rfl:k=8:=oe;have h1:¬z<8:=oe;clear E;have t:wr.ownsRow w.heap.size 9 1 (.slice (PT (w.heap.size+1)) 8 8) 8 (qej a0 a1 a2 a3 l 8):=by
  have e:qlv a0 a1 a2 a3 l 8=qej a0 a1 a2 a3 l 8:=by unfold qlv;simp
  rw[<-e];exact g
 clear g;go_wp2_with fail
 go_ret;exact⟨_,rfl,t,a⟩
end
section
open _root_.Go.Proofs.Tryz Go.Maps
def q3f (w:Wl) (h:PS w b G S):
 Ca 135 #[PP b] w (Rn (U S.waits.length) w):=by
 obtain⟨o,m,F,log,waits,d,_,e⟩:=h.mem;have i:=d.box.c 8;obtain⟨_,_,j,f,g⟩:=d.map;have k:∀a,(Builtin.len_ #[181] a #[.map (some m)]).run prog w=.ok (U S.waits.length) w:=λa=>by
  have:=f.len underlying181 a;rw[g.size,e]at this;exact this
 go_enter func135,ntmps135;go_wp2_with fail
 go_ret;exact⟨rfl,jcc _ _⟩
def q6f (w:Wl) (h:PS w b G S) (d:j3 S):
 Ca 136 #[PP b] w λe w'=>∃v,e=.returned v/\w'.ownsRow w.heap.size 9 1 v 8 (qej S.a0 S.a1 S.a2 S.a3 S.l 8)/\Bw w w':=by
 obtain⟨q,r,F,log,waits,a,_,_⟩:=h.mem;have m:=a.box.c 1;have n:=a.box.c 2;have o:=a.box.c 3;have p:=a.box.c 4;have g:Hid (Ca 172 #[.pointer (some (AD b 25)),.agg #[U S.a0,U S.a1,U S.a2,U S.a3]] w.drew λe w'=>∃v,e=.returned v/\Hid (w'.ownsRow w.heap.size 9 1 v 8 (qej S.a0 S.a1 S.a2 S.a3 S.l 8)/\Bw w w')):=
  (q6v S.a0 S.a1 S.a2 S.a3 w.drew (a.later (jcc _ w).drew).st d.many d.apart d.ok).mono λe w' ⟨v,i,j,k⟩=>⟨v,i,j,qa (jcc _ w).drew k⟩
 go_enter func136,ntmps136;go_wp2_with fail
 go_region_law (refine je rfl 172 #[.pointer (some (AD b 25)),.agg #[U S.a0,U S.a1,U S.a2,U S.a3]] (by go_simp) g.out ?_
                rintro e s ⟨v,rfl,f⟩;refine⟨_,rfl,?_⟩)
 all_goals
  go_wp2_with fail
  go_ret;exact⟨_,rfl,f.out.1,f.out.2⟩
end
section
open _root_.Go.Proofs.Tryz
def qmf (Ls:Nat->List Ver):Nat->Nat
 |0=>0
 |k+1=>qmf Ls k+(Ls k).length
def qv1 (a:Nat->List Ver):∀{k m:Nat},k<=m->qmf a k<=qmf a m
 |k,0,h=>by obtain rfl:k=0:=by omega
            exact jcd _
 |k,m+1,h=>by
  rcases jc7 k (m+1)with b|b
  .exact jcn (qv1 a oe) (Nat.le_add_right _ _)
  obtain rfl:k=m+1:=oe;exact jcd _
def q4n (x:Nat->Vl) {k:Nat} (a:k<8) {z:Int} (b:z=k) (w:Wl):(Instr.index 185 (.agg #[x 0,x 1,x 2,x 3,x 4,x 5,x 6,x 7]) (U z)).run prog w=.ok (x k) w:=by
 subst b;obtain rfl|rfl|rfl|rfl|rfl|rfl|rfl|rfl:=q6q a<;>kernel_rfl
def q2y {b g:Nat} {F:Np} {l:List Hd} (w:Wl) (s:qir w b g F l) (L:l.length<=1000):
 Ca 173 #[.pointer (some (AD b g))] w (Rn (U l.length) w):=by
 obtain⟨j,d,R,t,M⟩:=id s;have u:(w).cell? (AD b g)=some (j 0):=R.cell (k:=0) oe;have v:=R.cell (k:=1) oe;have x:=R.cell (k:=2) oe;have B:=R.cell (k:=3) oe;have C:=R.cell (k:=4) oe;have D:=R.cell (k:=5) oe;have E:=R.cell (k:=6) oe;have G:=R.cell (k:=7) oe;have m:qmf d 8=l.length:=by
  have:=t.count;simp only[qmf];omega
 have n:=hd1 m;clear m;go_enter func173,ntmps173;go_wp2_with fail
 clear u v x B C D E G;go_loopw [3,10] (λH iv wr=>∃(k:Nat) (z y:Int),k<=8/\z=k/\y=qmf d k/\iv=U z/\H=U y/\wr=w) (λ_ i _=>8-(intOf i).toNat)
 case atStart=>exact⟨0,0,0,oe,rfl,rfl,rfl,rfl,rfl⟩
 obtain⟨k,z,y,N,f,h,rfl,rfl,rfl⟩:=hrel;have o:=hd1 h;have p:=hd1 f;by_cases q:k<8
 .have r:=qv1 d (show k+1<=8 by omega);rw[n.out]at r;have I:qmf d (k+1)=qmf d k+(d k).length:=rfl;have J:z<8:=oe;have O:0<=z:=oe;obtain⟨a,c,e,_⟩:=qfo (R.own k q);have K:=q4n j q f;rw[e]at K;have P: -9223372036854775808<=y+((d k).length:Int):=oe;have Q:y+((d k).length:Int)<=9223372036854775807:=oe;clear f h I r;go_wp2_with fail
  go_roundw
  case rel=>exact⟨k+1,z+1,y+((d k).length:Int),oe,by have:=p.out;omega,by have:=o.out;simp only[qmf];omega,oI,oI,by first|rfl|trivial⟩
  simp[intOf];have:=p.out;omega
 obtain rfl:k=8:=oe;have J:¬z<8:=oe;clear f h;go_wp2_with fail
 go_ret;exact⟨by rw[o.out,n.out];rfl,jcc _ _⟩
end
def qk7 (a0 a1 a2 a3:Int) (L:List Ver):List Ver:=L.filter λv=>!qhu a0 a1 a2 a3 ((qdi a0 a1 a2 a3 L).getD jq) v
section
open _root_.Go.Proofs.Tryz
structure qhf (w0:Wl) (b so:Nat) (vs:Nat->Vl) (A:Nat->List Ver) (a0 a1 a2 a3:Int) (k:Nat) (vs':Nat->Vl) (Ls':Nat->List Ver) (wr:Wl):Prop where
 raw:qi0 wr b so vs' Ls'
 done:∀i,i<k->Ls' i=qk7 a0 a1 a2 a3 (A i)
 rest:∀i,k<=i->Ls' i=A i/\vs' i=vs i
 foot:∀j,qfu b vs' j->qfu b vs j
 touch:qc (qfu b vs) w0 wr
 cells:qfy b so w0 wr
variable {w0 wr:Wl} {so:Nat} {vs:Nat->Vl} {A:Nat->List Ver}
def qhf.later {w':Wl} {c:Nat->Vl} {d:Nat->List Ver} (h:qhf w0 b so vs A a0 a1 a2 a3 k c d wr) (a:Bw wr w'):qhf w0 b so vs A a0 a1 a2 a3 k c d w':=
 ⟨h.raw.later a,h.done,h.rest,h.foot,h.touch.trans (qc.ofBelow a),h.cells.trans (qfy.ofBlock (a.block b h.raw.box.lt))⟩
def qhf.next {n:Wl} {c:Nat->Vl} {o:Nat->List Ver} (h:qhf w0 b so vs A a0 a1 a2 a3 k c o wr) (p:k<8) {w:Vl}
 (f:qoa wr (c k) (qk7 a0 a1 a2 a3 (A k)) w n):qhf w0 b so vs A a0 a1 a2 a3 (k+1) (upd c k w) (upd o k (qk7 a0 a1 a2 a3 (A k))) (n.setCell (AD b (so+k)) w):=by
 have q:qbr (qk7 a0 a1 a2 a3 (A k)):=by
  have:=h.raw.sorted k p;rw[(h.rest k (jcd _)).1]at this;exact qqz this _
 have m:=h.raw.change p (v':=w) (L':=qk7 a0 a1 a2 a3 (A k)) (qc.grown f.2.1 (λj a=>a)) f.1 (λg e=>.inl (by rw[f.2.2]at e;exact e)) q;have r:∀j,qfu b (upd c k w) j->qfu b c j:=λj a=>by
  obtain rfl|⟨i,x,e⟩:=a
  .exact .inl rfl
  by_cases d:i=k
  .subst d;rw[qde,f.2.2]at e;exact .inr ⟨i,x,e⟩
  rw[qax _ _ d]at e;exact .inr ⟨i,x,e⟩
 refine⟨m.1,λi x=>?_,λi x=>?_,λj a=>h.foot j (r j a),?_,h.cells.trans m.2.2.2⟩
 .by_cases d:i=k
  .subst d;rw[qde]
  rw[qax _ _ d];exact h.done i oe
 .rw[qax _ _ oe,qax _ _ oe];exact h.rest i oe
 have t:=m.2.1;exact h.touch.trans ⟨t.os,t.tape,t.output,t.size,λj a s=>t.block j a (λe=>s (h.foot j e))⟩
def qhf.post {a:Nat->Vl} {g:Nat->List Ver} (h:qhf w0 b so vs A a0 a1 a2 a3 8 a g wr) (R:qi0 w0 b so vs A) (c:qbp A l) (i:∀k,F k↔qfu b vs k) (m:qfk l):qf8 w0 b so F (qcr a0 a1 a2 a3 l) wr:=by
 refine⟨qfu b a,⟨a,g,h.raw,⟨λk d=>?_,λx n=>c.keys x (jdq.1 n).1⟩,λ_=>jdl⟩,λj f=>.inl ((i j).2 (h.foot j f)),⟨h.touch.os,h.touch.tape,h.touch.output,h.touch.size,λj f o=>h.touch.block j f (λe=>o ((i j).2 e))⟩,h.cells⟩;rw[h.done k d];exact q32 (c.perm k d) (c.qlast R m d a0 a1 a2 a3)
def qyf (a0 a1 a2 a3:Int) (w:Wl) (hS:qir w b so F l) (hl:l.length<=1000) (X:qfk l) (H:∀h∈l,qau h.v=true):
 Ca 176 #[.pointer (some (AD b so)),.agg #[U a0,U a1,U a2,U a3]] w λe w'=>e=.returned (.tuple #[])/\qf8 w b so F (qcr a0 a1 a2 a3 l) w':=by
 obtain⟨vs,A,R,I,hF⟩:=id hS;have f:=qd.new (w:=w) (T:=113) [U a0,U a1,U a2,U a3] rfl;have t:=boxed (jcc _ w) (.cells #[U a0,U a1,U a2,U a3] 113);have o:=R.later t;have J:qhf w b so vs A a0 a1 a2 a3 0 vs A (w.alloc (.cells #[U a0,U a1,U a2,U a3] 113)):=⟨o,λi hi=>oe,λi _=>⟨rfl,rfl⟩,λj hj=>hj,qc.ofBelow t,qfy.ofBlock (t.block b R.box.lt)⟩;have k0:(w.alloc (.cells #[U a0,U a1,U a2,U a3] 113)).cell? (AD b so)=some (vs 0):=o.cell (k:=0) oe;have k1:=o.cell (k:=1) oe;have k2:=o.cell (k:=2) oe;have k3:=o.cell (k:=3) oe;have k4:=o.cell (k:=4) oe;have k5:=o.cell (k:=5) oe;have k6:=o.cell (k:=6) oe;have k7:=o.cell (k:=7) oe;have HA:=hd1 X;have HO:=hd1 H;have Y:∀k,k<8->(A k).length<=1000:=λk u=>jcn (I.len u) hl;have Z:=hd1 Y;have aa:Hid (∀k,k<8->∀v∈A k,0<=v.site/\v.site<=3):=λk u=>I.sites H u;clear X H Y o;go_enter func176,ntmps176
 go_wp2_with fail
 clear k0 k1 k2 k3 k4 k5 k6 k7;obtain⟨W,ab⟩:∃W,w.alloc (.cells #[U a0,U a1,U a2,U a3] 113)=W:=⟨_,rfl⟩;rw[ab]at f J ⊢;clear ab t;go_loopw [12] (λiv wr=>∃(k:Nat) (z:Int) (K:Nat->Vl) (ac:Nat->List Ver),k<=8/\z=k/\iv=U z/\Hid (qhf w b so vs A a0 a1 a2 a3 k K ac wr)/\qd wr w.heap.size [U a0,U a1,U a2,U a3]) (λi _=>8-(intOf i).toNat)
 case atStart=>exact⟨0,0,vs,A,oe,rfl,rfl,J,f⟩
 clear J f;obtain⟨k,z,K,ac,u,x,rfl,s,f⟩:=hrel;have HZ:=hd1 x;by_cases m:k<8
 .have h1:z<8:=oe;have h3:0<=z:=oe;have h2:z.toNat=k:=oe;obtain⟨a,c,e,hV⟩:=qfo (R.own k m);have ix:=q4n vs m x;rw[e]at ix;obtain⟨c0,c1,c2,c3⟩:=f.c4;have p:wr.ownsRow 0 218 6 (.slice a (A k).length c) (A k).length (ja (A k)):=by
   have:=s.out.raw.own k m;rw[(s.out.rest k (jcd _)).1,(s.out.rest k (jcd _)).2,e]at this;exact this
  have hVr:qs5 wr a c (A k):=by
   obtain⟨a',c',e',h'⟩:=qfo p;injection e' with L e2 e3;subst L e3;exact h'
  obtain⟨d,M⟩:∃d,(qdi a0 a1 a2 a3 (A k)).getD jq=d:=⟨_,rfl⟩;obtain⟨sb,hsb⟩:∃sb,qga (qdi a0 a1 a2 a3 (A k))=sb:=⟨_,rfl⟩;have N:=qwf a0 a1 a2 a3 wr hVr (aa.out k m) (Z.out k m);rw[qjl,M,hsb]at N;have ST:=hd1 M;have y:=hd1 e;clear x M hsb hV hVr e;go_wp2_with fail
  refine N.mono ?_;rintro e q ⟨rfl,B⟩;replace f:=f.later B;replace p:=qgp p B;have n:=hd1 (s.out.later B);clear N s c0 c1 c2 c3 B;rw[show (qh d).toArray=#[U d.wall,U d.count,U d.site,U d.seq,.string d.data,.bool d.gone]from rfl];have C:=boxed (jcc _ q) (.cells #[U d.wall,U d.count,U d.site,U d.seq,.string d.data,.bool d.gone] 218);have D:=qd.new (w:=q) (T:=218) (qh d) rfl;change qd (q.alloc (.cells #[U d.wall,U d.count,U d.site,U d.seq,.string d.data,.bool d.gone] 218)) q.heap.size (qh d)at D;replace f:=f.later C;replace p:=qgp p C;replace n:=n.out.later C;have O:=λg hg=>((R.own k m).lt g (by rw[y.out];exact hg)).2;have hsz:=n.touch.size;obtain⟨r,P⟩:∃r,q.alloc (.cells #[U d.wall,U d.count,U d.site,U d.seq,.string d.data,.bool d.gone] 218)=r:=⟨_,rfl⟩;rw[P]at D f p n
  have L:r.heap.size=q.heap.size+1:=by rw[<-P];simp
  have hw1:w.heap.size<=q.heap.size:=by rw[P]at hsz;have:=f.lt;omega
  have S2:=hd1 (n.later (jcc _ r).drew);have DE:=hd1 (qyk r.drew p (aa.out k m) (Z.out k m) f.drew D.drew (λh=>by have:=O _ h;omega) (λh=>by have:=O _ h;omega));have qdb:=n.raw.cell m;rw[(n.rest k (jcd _)).2,y.out]at qdb;have bfree:=n.raw.free m;have hap:=n.raw.apart k m;rw[(n.rest k (jcd _)).2,y.out]at hap;have hbl:=n.raw.box.lt;clear p D C n hsz L;go_wp2_with fail
  go_region_law (
   refine je rfl 219 #[.slice a (A k).length c,.func (.func 220) #[] #[PP w.heap.size,PP q.heap.size]] o9 DE.out ?_;rintro e E ⟨v',rfl,G⟩;refine⟨_,rfl,?_⟩;have HD:=hd1 G;have Q:=G.2.1.block b hbl (λe=>hap e.symm);have c8:E.cell? (AD b (so+k))=some (.slice a (A k).length c):=by rw[jch (w:=r.drew) Q];exact qdb
   have f8:E.frozen? (AD b (so+k))=false:=by rw[jcp (w:=r.drew) Q];exact bfree
   obtain⟨S,V,hv9,_⟩:=qfo G.1;subst hv9;clear G Q)
  all_goals
   have HD2:qoa r.drew (K k) (qk7 a0 a1 a2 a3 (A k)) (.slice S ((A k).filter λv=>!qhu a0 a1 a2 a3 d v).length V) E:=by
        rw[(S2.out.rest k (jcd _)).2,y.out];unfold qk7;rw[ST.out];exact HD.out
   have SN:=hd1 (S2.out.next m HD2);have hwb:w.heap.size≠b:=by have:=R.box.lt;omega
   have RA8:=f.drew.grown HD.out.2.1 (λe=>by have:=O _ e.symm;omega);have RA9:=RA8.far (AD b (so+k)) (.slice S ((A k).filter λv=>!qhu a0 a1 a2 a3 d v).length V) (Ne.symm hwb);obtain⟨W9,hW9⟩:∃W9,E.setCell (AD b (so+k)) (.slice S ((A k).filter λv=>!qhu a0 a1 a2 a3 d v).length V)=W9:=⟨_,rfl⟩;rw[hW9]at SN RA9 ⊢;clear hW9 HD2 RA8 c8 f8;go_wp2_with fail
   go_roundw
   case rel=>exact⟨k+1,z+1,_,_,oe,oK,oI,SN,RA9⟩
   simp[intOf];have:=HZ.out;omega
 obtain rfl:k=8:=oe;have h1:¬z<8:=oe;clear x;go_wp2_with fail
 go_end0;exact⟨rfl,s.out.post R I hF HA.out⟩
end
section
open _root_.Go.Proofs.Tryz Go.Maps
def q1v (w:Wl) (h:PS w b G S) (a:j3 S):
 Ca 137 #[PP b] w (Rn (U S.l.length) w):=by
 obtain⟨i,j,F,log,waits,c,_,_⟩:=h.mem;have d:=q2y w c.st a.many;go_enter func137,ntmps137;go_wp2_with fail
 refine d.mono ?_;rintro e k ⟨rfl,f⟩;go_wp2_with fail
 go_ret;exact⟨rfl,f⟩
def qx0 (A X Y Z:Int) (w:Wl) (h:PS w b G S) (j:j3 S):
 Ca 140 #[PP b,.agg #[U A,U X,U Y,U Z]] w λe w'=>e=.returned (.tuple #[])/\PPo w b G {S with l:=qcr (qm A S.a0) (qm X S.a1) (qm Y S.a2) (qm Z S.a3) S.l} w':=by
 have r:=boxed (jcc _ w) (.cells #[U A,U X,U Y,U Z] 113);have t:=qd.new (w:=w) (T:=113) [U A,U X,U Y,U Z] rfl;obtain⟨lv,bm,F,log,waits,g,u,v,n⟩:=h;have i:=g.later r;have J:=i.box.c 1;have K:=i.box.c 2;have L:=i.box.c 3;have M:=i.box.c 4;obtain⟨N,O,P,Q⟩:=t.c4;have x:Hid (∀W,Bw w W->Ca 139 #[.agg #[U A,U X,U Y,U Z],.agg #[U S.a0,U S.a1,U S.a2,U S.a3]] W (Rn (.agg #[U (qm A S.a0),U (qm X S.a1),U (qm Y S.a2),U (qm Z S.a3)]) w)):=λW a=>(qn5 A X Y Z S.a0 S.a1 S.a2 S.a3 W).mono λe w' ⟨o,p⟩=>⟨o,qa a p⟩
 have y:Hid (∀W,Bw w W->Ca 176 #[.pointer (some (AD b 25)),.agg #[U (qm A S.a0),U (qm X S.a1),U (qm Y S.a2),U (qm Z S.a3)]] W λe w'=>e=.returned (.tuple #[])/\Hid (PPo w b G {S with l:=qcr (qm A S.a0) (qm X S.a1) (qm Y S.a2) (qm Z S.a3) S.l} w')):=λW a=>
  (qyf (qm A S.a0) (qm X S.a1) (qm Y S.a2) (qm Z S.a3) W (g.later a).st j.many j.apart j.ok).mono λe w' ⟨o,p⟩=>by
   obtain⟨F',z,B,d⟩:=(g.later a).store p;have R:∀k,(∃m∈log++waits,m.blk k)->k<w.heap.size:=λk ⟨m,C,e⟩=>(g.hold m C).1.blk_lt k e;refine⟨o,λk=>jn b lv bm F' k\/∃m∈log++waits,m.blk k,⟨lv,bm,F',log,waits,z,u,v,λk=>jdl⟩,λk f=>?_,(qc.ofBelow a).more ⟨d.os,d.tape,d.output,d.size,λk f D=>d.block k f (λe=>D ((n k).2 (.inl e)))⟩ (λk f=>.inl f)⟩;obtain q|q:=f
   .obtain s|s:=B k q
    .exact .inl ((n k).2 (.inl s))
    exact .inr (by have:=a.size;omega)
   exact .inl ((n k).2 (.inr q))
 have E:=r.drew;go_enter func140,ntmps140;go_wp2_with fail
 go_region_law (first
  |(refine je rfl 139 #[.agg #[U A,U X,U Y,U Z],.agg #[U S.a0,U S.a1,U S.a2,U S.a3]] (by go_simp) (x.out _ E) ?_
    rintro e w2 ⟨rfl,H⟩;refine⟨_,rfl,?_⟩)
  |(refine je rfl 176 #[.pointer (some (AD b 25)),.agg #[U (qm A S.a0),U (qm X S.a1),U (qm Y S.a2),U (qm Z S.a3)]] (by go_simp) (y.out _ H) ?_
    rintro e V ⟨rfl,I⟩;refine⟨_,rfl,?_⟩))
 all_goals
  go_wp2_with fail
  go_end0;exact⟨rfl,I.out⟩
end
def q7o (o:Oper):Option Nat:=match o.op with
 |.call c=>match c.callee with
  |.value (.func n)=>some n
  |_=>none
 |_=>none
def qah {P:Pq} {b:Array Oper} {o:Oper} {a:Act} {w:Wl} {K:Act->Wv} {Q:Exit->Act->Wv} {E:Prop} (c:o.guard=none) (f:Fi) (_hf:q7o o=some f) (args:Av)
 (d:(execOp a.eval o).run P w=.ok (.enter f args) w) {R:Ending->Wv} (h:Calls P f args w R) (g:∀e w',R e w'->∃v,e=.returned v/\K (a.put o.dst v) w'):
 if Region.wanted o (yielded b a.tmps)=true then Oper.wp P o a w K Q else E:=je c f args d h g
def qv5 {b:Nat} {G:Np} {S:qe} (a:Int) (w:Wl) (h:PS w b G S):
 Ca 138 #[PP b,U a] w λe w'=>
  e=.returned (.agg #[U (qj S (jw a)).v0,U (qj S (jw a)).v1,U (qj S (jw a)).v2,U (qj S (jw a)).v3])/\Bw w w':=by
 obtain⟨d,i,F,log,waits,h,_,_,_⟩:=h;exact qzh a w h
open Tryz Go.Extern.Stop Go.Stop Go.Extern
def qs0 (t:Addr) (w:Wl):(ReflectliteValue.unpack (.iface 194 (.pointer (some t)))).run prog w
 =.ok (.agg #[.pointer (some (AD 7 194)),PP w.heap.size,.int .u64 150]) (w.alloc (.cells #[.pointer (some t)] 194)):=oh
def q2n (a:Addr) (w:Wl):(ReflectliteValue.methodAny (ReflectliteValue.valueError "reflectlite.Value.Type" 0) (λt _ _ _=>ReflectliteType.toType t) #[.agg #[.pointer (some (AD 7 194)),.pointer (some a),.int .u64 150]]).run prog w
 =.ok (.iface 267 (.agg #[.pointer (some (AD 7 194))])) w:=oh
def q9s (h:Vl) (w:Wl):(Go.method 450 267 (.agg #[h]) "Kind").run prog w=.ok (284,h) w:=oh
def q75 (h:Vl) (w:Wl):(Go.method 450 267 (.agg #[h]) "Elem").run prog w=.ok (295,.agg #[h]) w:=oh
def q9h (h:Vl) (w:Wl):(Go.method 450 267 (.agg #[h]) "Implements").run prog w=.ok (296,.agg #[h]) w:=oh
def q28 (h:Vl) (w:Wl):(Go.method 450 267 (.agg #[h]) "AssignableTo").run prog w=.ok (293,.agg #[h]) w:=oh
def q2s (w:Wl):((ReflectliteType.abiMethod λt=>(λa:Nat=>Value.int IntKind.u8 (a:Int))<$>Rtype.kind t) #[.pointer (some (AD 7 194))]).run prog w=.ok (.int .u8 22) w:=oh
def q80 (w:Wl):((ReflectliteType.abiMethod λt=>(λa:Nat=>Value.int IntKind.u8 (a:Int))<$>Rtype.kind t) #[.pointer (some (AD 7 30))]).run prog w=.ok (.int .u8 2) w:=oh
def q1t (w:Wl):(ReflectliteType.method ReflectliteType.elem #[.agg #[.pointer (some (AD 7 194))]]).run prog w=.ok (.iface 267 (.agg #[.pointer (some (AD 7 30))])) w:=oh
def q96 (w:Wl):(ReflectliteType.relation "Implements" ReflectliteType.implements_ #[.agg #[.pointer (some (AD 7 30))],.iface 267 (.agg #[.pointer (some (AD 7 24))])]).run prog w=.ok (.bool true) w:=oh
def q1s (v:Vl) (w:Wl):(ReflectliteType.typeOf #[.iface 30 v]).run prog w=.ok (.iface 267 (.agg #[.pointer (some (AD 7 30))])) w:=oh
def q1f (w:Wl):(ReflectliteType.relation "AssignableTo" ReflectliteType.assignableTo #[.agg #[.pointer (some (AD 7 30))],.iface 267 (.agg #[.pointer (some (AD 7 30))])]).run prog w=.ok (.bool true) w:=oh
def qxu (n:Int) (w:Wl):(ReflectliteValue.unpack (.iface 30 (U n))).run prog w
 =.ok (.agg #[.pointer (some (AD 7 30)),PP w.heap.size,.int .u64 130]) (w.alloc (.cells #[U n] 30)):=oh
def qo6 (a:Addr) (w:Wl):(ReflectliteValue.parts (.agg #[.pointer (some (AD 7 194)),.pointer (some a),.int .u64 150])).run prog w=.ok (some (194,a,150)) w:=oh
def qxp (a:Addr) (w:Wl):(ReflectliteValue.parts (.agg #[.pointer (some (AD 7 30)),.pointer (some a),.int .u64 386])).run prog w=.ok (some (30,a,386)) w:=oh
def q6i (a:Addr) (w:Wl):(ReflectliteValue.parts (.agg #[.pointer (some (AD 7 30)),.pointer (some a),.int .u64 130])).run prog w=.ok (some (30,a,130)) w:=oh
def q7g (w:Wl):(Rtype.elem? 194).run prog w=.ok (some 30) w:=oh
def jb8 (p:Addr) (w:Wl):(ReflectliteValue.mk 30 p ReflectliteValue.flagAddr).run prog w=.ok (.agg #[.pointer (some (AD 7 30)),.pointer (some p),.int .u64 386]) w:=oh
def q6y (w:Wl):(Rtype.directlyAssignable 30 30).run prog w=.ok true w:=oh
def q9u (a p:Addr) (W:Wl) (b:W.cell? a=some (.pointer (some p))):
 (ReflectliteValue.method (ReflectliteValue.valueError "reflectlite.Value.IsNil" 0) ReflectliteValue.isNil #[.agg #[.pointer (some (AD 7 194)),.pointer (some a),.int .u64 150]]).run prog W=.ok (.bool false) W:=by
 refine Eq.trans (congrArg (λs=>Sem.run prog s W) (show ReflectliteValue.method (ReflectliteValue.valueError "reflectlite.Value.IsNil" 0) ReflectliteValue.isNil #[(.agg #[.pointer (some (AD 7 194)),.pointer (some a),.int .u64 150])]=(ReflectliteValue.parts (.agg #[.pointer (some (AD 7 194)),.pointer (some a),.int .u64 150])>>=_)from rfl)) ?_;simp only[Sem.run_bind,qo6,Result.andThen];simp[ReflectliteValue.isNil,loadVar,isAgg,underlying,underlying194,b,Result.andThen]
def q8j (a p:Addr) (W:Wl) (b:W.cell? a=some (.pointer (some p))):
 (ReflectliteValue.method (ReflectliteValue.valueError "reflectlite.Value.Elem" 0) ReflectliteValue.elem #[.agg #[.pointer (some (AD 7 194)),.pointer (some a),.int .u64 150]]).run prog W
  =.ok (.agg #[.pointer (some (AD 7 30)),.pointer (some p),.int .u64 386]) W:=by
 refine Eq.trans (congrArg (λs=>Sem.run prog s W) (show ReflectliteValue.method (ReflectliteValue.valueError "reflectlite.Value.Elem" 0) ReflectliteValue.elem #[(.agg #[.pointer (some (AD 7 194)),.pointer (some a),.int .u64 150])]=(ReflectliteValue.parts (.agg #[.pointer (some (AD 7 194)),.pointer (some a),.int .u64 150])>>=_)from rfl)) ?_;simp only[Sem.run_bind,qo6,Result.andThen];simp[ReflectliteValue.elem,loadVar,isAgg,underlying,underlying194,b,Result.andThen,q7g,jb8]
def jbv (a b:Addr) (n:Int) (c:Vl) (W:Wl) (d:W.cell? b=some (U n)) (e:W.cell? a=some c) (f:W.frozen? a=false):
 (ReflectliteValue.set #[.agg #[.pointer (some (AD 7 30)),.pointer (some a),.int .u64 386],.agg #[.pointer (some (AD 7 30)),.pointer (some b),.int .u64 130]]).run prog W
  =.ok (.tuple #[]) (W.setCell a (U n)):=by
 refine Eq.trans (congrArg (λs=>Sem.run prog s W) (show ReflectliteValue.set #[(.agg #[.pointer (some (AD 7 30)),.pointer (some a),.int .u64 386]),(.agg #[.pointer (some (AD 7 30)),.pointer (some b),.int .u64 130])]=(ReflectliteValue.parts (.agg #[.pointer (some (AD 7 30)),.pointer (some a),.int .u64 386])>>=λ_=>ReflectliteValue.parts (.agg #[.pointer (some (AD 7 30)),.pointer (some b),.int .u64 130])>>=_)from rfl)) ?_;simp only[Sem.run_bind,qxp,q6i,Result.andThen];simp[ReflectliteValue.flagAddr,loadVar,isAgg,underlying,underlying30,d,Result.andThen,q6y,storeVar,Value.cells,storeCells,Addr.add];rw[run_store prog W a _ _ (by rfl)];simp[e,f]
def ja2 (n:Int) (t:Addr) (a:Vl) (w:Wl) (b:w.cell? (AD 2 0)=some (.iface 267 (.agg #[.pointer (some (AD 7 24))]))) (c:w.cell? t=some a) (e:w.frozen? t=false):
 Ca 142 #[.iface 30 (U n),.iface 194 (.pointer (some t))] w λA w'=>A=.returned (.bool true)/\w'=((((w.alloc (.cells #[.pointer (some t)] 194)).alloc (.cells #[.pointer (some (AD 7 194)),PP w.heap.size,.int .u64 150] 225)).alloc (.cells #[.pointer (some (AD 7 194)),PP w.heap.size,.int .u64 150] 225)).alloc (.cells #[U n] 30)).setCell t (U n):=by
 have g:=@run_callFunc_extern prog 177 _ (λargs=>ReflectliteValue.unpack (args.getD 0 (.tuple #[]))) func177 oh oh oh oh;have h:=@run_callFunc_extern prog 178 _ (ReflectliteValue.methodAny (ReflectliteValue.valueError "reflectlite.Value.Type" 0) (λt _ _ _=>ReflectliteType.toType t)) func178 oh oh oh oh;have i:=@run_callFunc_extern prog 179 _ (ReflectliteValue.method (ReflectliteValue.valueError "reflectlite.Value.IsNil" 0) ReflectliteValue.isNil) func179 oh oh oh oh;have j:=@run_callFunc_extern prog 284 _ (ReflectliteType.abiMethod λt=>do pure (.int .u8 (<-Rtype.kind t))) func284 oh oh oh oh;have k:=@run_callFunc_extern prog 295 _ (ReflectliteType.method ReflectliteType.elem) func295 oh oh oh oh;have l:=@run_callFunc_extern prog 296 _ (ReflectliteType.relation "Implements" ReflectliteType.implements_) func296 oh oh oh oh;have m:=@run_callFunc_extern prog 222 _ ReflectliteType.typeOf func222 oh oh oh oh;have o:=@run_callFunc_extern prog 293 _ (ReflectliteType.relation "AssignableTo" ReflectliteType.assignableTo) func293 oh oh oh oh;have p:=@run_callFunc_extern prog 223 _ (ReflectliteValue.method (ReflectliteValue.valueError "reflectlite.Value.Elem" 0) ReflectliteValue.elem) func223 oh oh oh oh;have q:=@run_callFunc_extern prog 224 _ ReflectliteValue.set func224 oh oh oh oh;have r:=q1s;have s:=q28;have u:=q1f;have v:=qxu;have x:=qs0;have y:=q2n;have z:=q9s;have B:=q75;have C:=q9h;have D:=q2s;have E:=q80;have F:=q1t;have G:=q96;have H:=q9u (AD w.heap.size 0) t ((w.alloc (.cells #[.pointer (some t)] 194)).alloc (.cells #[.pointer (some (AD 7 194)),PP w.heap.size,.int .u64 150] 225)) oi;have f:2<w.heap.size:=jcr _ _ b;have d:=jcr _ _ c;have I:((w.alloc (.cells #[.pointer (some t)] 194)).alloc (.cells #[.pointer (some (AD 7 194)),PP w.heap.size,.int .u64 150] 225)).cell? (AD 2 0)=some (.iface 267 (.agg #[.pointer (some (AD 7 24))])):=by
  rw[World.cell?_alloc_lt _ _ (AD 2 0) (by simp<;>omega),World.cell?_alloc_lt _ _ (AD 2 0) f];exact b
 have J:=q8j (AD w.heap.size 0) t (((w.alloc (.cells #[.pointer (some t)] 194)).alloc (.cells #[.pointer (some (AD 7 194)),PP w.heap.size,.int .u64 150] 225)).alloc (.cells #[.pointer (some (AD 7 194)),PP w.heap.size,.int .u64 150] 225)) (by rw[World.cell?_alloc_lt _ _ (AD w.heap.size 0) ou];simp);have K:=jbv t (AD (w.heap.size+1+1+1) 0) n a ((((w.alloc (.cells #[.pointer (some t)] 194)).alloc (.cells #[.pointer (some (AD 7 194)),PP w.heap.size,.int .u64 150] 225)).alloc (.cells #[.pointer (some (AD 7 194)),PP w.heap.size,.int .u64 150] 225)).alloc (.cells #[U n] 30))
  (by rw[World.cell?_alloc_at _ _ _ _ oi];rfl)
  (by rw[World.cell?_alloc_lt _ _ t ou,World.cell?_alloc_lt _ _ t ou,World.cell?_alloc_lt _ _ t ou,World.cell?_alloc_lt _ _ t d];exact c)
  (by rw[World.frozen?_alloc_old _ _ t ou,World.frozen?_alloc_old _ _ t ou,World.frozen?_alloc_old _ _ t ou,World.frozen?_alloc_old _ _ t (Nat.ne_of_lt d)];exact e)
 go_enter func142,ntmps142;go_wp2;refine wp_loop_rounds 1 ?_;rw[rounds_succ];go_wp2;go_ret;exact⟨rfl,rfl⟩
def qzi (n:Int) (w:Wl) (a:w.cell? (AD 2 0)=some (.iface 267 (.agg #[.pointer (some (AD 7 24))]))):
 Ca 105 #[.iface 30 (U n)] w (Rn (U n) w):=by
 have b:=cell_later (boxed (jcc _ w) (.cells #[U 0] 30)) a;have c:(w.alloc (.cells #[U 0] 30)).cell? (AD w.heap.size 0)=some (U 0):=oi;have d:(w.alloc (.cells #[U 0] 30)).frozen? (AD w.heap.size 0)=false:=oi;go_enter func105,ntmps105;go_wp2_with fail
 refine(ja2 _ _ (U 0) _ b c d).mono ?_;rintro e f ⟨rfl,rfl⟩;go_wp2;go_ret;refine⟨rfl,?_⟩;repeat (first|(with_reducible exact jcc _ _)|(with_reducible refine boxed ?_ _)|(with_reducible refine jdz ?_ (jcd _) _))
end Go.Proofs.YtbfkeoagmajcpaaGreatDoor
