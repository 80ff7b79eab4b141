import Derived.Test.YtbfkeoagmajcpaaGreatDoorSiteJ
import Derived.Test.YtbfkeoagmajcpaaGreatDoorSiteH
import Derived.Lib.AppendIntMem
import Derived.Lib.ItoaLen
import Derived.RegionDies
set_option maxHeartbeats 8000000
set_option maxRecDepth 100000
set_option linter.defProp false
namespace Go.Proofs.YtbfkeoagmajcpaaGreatDoor
variable {A b j n u y z:Nat} {B:Np} {W W':WoS} {a:Oa} {l:List By} {w w':Wl}
section
open Tryz Go.RowKit
structure Gl (w:Wl):Prop where
 sz:7<=w.heap.size
 et:w.cell? (AD 2 0)=some (.iface 267 (.agg #[.pointer (some (AD 7 24))]))
 tab:Lib.TabIs prog w "internal/strconv.uint64pow10" .u64 Lib.pow10Tab
 es:∃t p,w.cell? (AD 5 0)=some (.iface t p)
 er:∃t p,w.cell? (AD 6 0)=some (.iface t p)
 ml:∃m,w.cell? (AD 0 0)=some (U m)
def qr1:prog.globalNamed "internal/strconv.uint64pow10"=some 1:=oh
def Gl.kept {w w':Wl} (g:Gl w) (b:∀k,k<7->w'.heap[k]?=w.heap[k]?) (d:w.heap.size<=w'.heap.size):Gl w':=by
 have c:∀{k:Nat} {v:Vl},k<7->w.cell? (AD k 0)=some v->w'.cell? (AD k 0)=some v:=λe h=>by rw[jch (w:=w) (b _ e)];exact h
 obtain⟨f,i,a,⟨j,l,n⟩,⟨o,p,q⟩,m,r⟩:=g;refine⟨jcn f d,c oj i,?_,⟨j,l,c oj n⟩,⟨o,p,c oj q⟩,m,c oj r⟩;unfold Lib.TabIs World.var? at a ⊢;rw[qr1]at a ⊢;simp only[Option.bind_some]at a ⊢;rw[b _ oj];exact a
def Gl.later {w w':Wl} (g:Gl w) (a:Bw w w'):Gl w':=g.kept (λk b=>a.block k (jci b g.sz)) a.size
def qc7 (n:Int):Ending:=.panicked [{v:=.iface 30 (U n),recovered:=false}]
def jba (o:Option Int) (e:Ending):Prop:=match o with
 |some v=>e=.returned (U v)
 |none=>e=qc7 3
def qsn (v:Int) (h:wfI v) (w:Wl) (g:Gl w):Ca 37 #[U v] w λe w'=>e=.returned (.string (bya (Lib.itoa v)))/\Bw w w':=
 (jej v h.1 h.2 w g.tab).mono λ_ _ ⟨a,k,d,b⟩=>⟨a,by rw[b];exact Lib.below_grow _ w (jcd _) k d⟩
def qq9 (v:Int) (h:wfI v) (w:Wl) (g:Gl w):Ca 187 #[U v,U 10] w λe w'=>e=.returned (.string (bya (Lib.itoa v)))/\Bw w w':=
 (jd5 v h.1 h.2 w g.tab).mono λ_ _ ⟨a,k,d,b⟩=>⟨a,by rw[b];exact Lib.below_grow _ w (jcd _) k d⟩
def qvu (s:By) (c:s.size<=1000000) (v:Int) (h:Lib.parseIntB 64 s.data.toList=.ok v) (w:Wl):Ca 186 #[.string s,U 10,U 64] w (Rn (.tuple #[U v,.nilIface]) w):=
 (jd2 s oe v h w).mono λ_ _ ⟨a,b⟩=>⟨a,by
  obtain rfl|⟨t,rfl⟩:=b
  .exact jcc _ _
  exact Lib.bytesWorld_below _ _ _⟩
def qw9 (s:By) (p:s.size<=1000000) (w:Wl) (g:Gl w):
 Ca 153 #[.string s] w λe w'=>jba (qbw s) e/\Bw w w':=by
 by_cases a:∃v,Lib.parseIntB 64 s.data.toList=.ok v
 .obtain⟨v,a⟩:=a;have c:wfI v:=by have:=Lib.parseIntB_bounds a;simp at this;exact⟨oe,oe⟩
  have k:=qvu s p v a w;have d:Hid (qbw s=if bya (Lib.itoa v)=s then some v else none):=by show qbw s=_;unfold qbw;rw[a]
  have f:=λw' q=>qq9 v c w' (g.later (w':=w') q);have h:=q93 (bya (Lib.itoa v)) s;clear a
  generalize bya (Lib.itoa v)=t at d f h;go_enter func153,ntmps153;go_wp2_with fail
  refine k.mono ?_;rintro e o ⟨rfl,i⟩;replace f:=f o i;by_cases b:t=s
  .have r:(t.toList==s.toList)=true:=by rw[h];simp[b]
   have j:Hid (qbw s=some v):=by show qbw s=_;rw[d.out,if_pos b]
   clear b h d;go_wp2_with fail
   refine f.mono ?_;rintro e x ⟨rfl,l⟩;go_wp2;go_ret;exact⟨by rw[j.out];rfl,qa i l⟩
  have r:(t.toList==s.toList)=false:=by rw[h];simp[b]
  have j:Hid (qbw s=none):=by show qbw s=_;rw[d.out,if_neg b]
  clear b h d;go_wp2_with fail
  refine f.mono ?_;rintro e x ⟨rfl,l⟩;go_wp2;exact⟨rfl,by rw[j.out];rfl,qa i l⟩
 have m:∀v,Lib.parseIntB 64 s.data.toList≠.ok v:=λv c=>a ⟨v,c⟩;have k:=jeh s oe m w g.es g.er
 have j:Hid (qbw s=none):=by
  show qbw s=none;unfold qbw;split
  .rename_i v c;exact absurd c (m v)
  rfl
 clear a m;go_enter func153,ntmps153;go_wp2_with fail
 refine k.mono ?_;rintro e o ⟨n,N,rfl,i⟩;go_wp2;exact⟨rfl,by rw[j.out];rfl,i⟩
structure qfj (w:Wl) (a:Oa) (cap:Nat) (l:List By):Prop where
 cap:l.length<=cap
 cell:∀(j:Nat) x,l[j]?=some x->∃b o,a=some (AD b o)/\b<w.heap.size/\w.cell? (AD b (o+j))=some (.string x)
def qfj.later {w w':Wl} {a:Oa} {i:Nat} {l:List By} (h:qfj w a i l) (c:Bw w w'):qfj w' a i l:=
 ⟨h.cap,λj x e=>by obtain⟨b,o,f,d,g⟩:=h.cell j x e;exact⟨b,o,f,jci d c.size,(c.cell (p:=AD b (o+j)) d).trans g⟩⟩
def q0l:(prog.info? 3).map (λi=>(i.zero,i.size,i.bytes))=some (some (U 0),1,8):=oh
def q20 {n:Nat} (a:n<=6) (w:Wl):(Instr.makeSlice 117 (U n) (U n)).run prog w=.ok (.slice (PT w.heap.size) n n) (w.alloc (.cells (madeCells #[U 0] n) 3)):=
 run_make_row' _ 3 (U 0) 8 underlying117 q0l rfl .i64 .i64 n oe oe w
def qec (l:List Int):Lv:=l.map (λx=>Value.int .i64 x)
def qn7 (w:Wl) (o:Option (List Int)) (e:Ending) (w':Wl):Prop:=match o with
 |some l=>∃b,e=.returned (.slice (PT b) l.length l.length)/\qd w' b (qec l)/\Bw w w'
 |none=>e=qc7 3/\Bw w w'
def qw0 {l:List By} {k:Nat} {a:List Int} (b:k<l.length) (h:qb0 (l.take k)=some a):qb0 (l.take (k+1))=(qbw l[k]).map (λv=>a++[v]):=by
 induction l generalizing k a with
 |nil=>simp at b
 |cons x l ih=>
  cases k with
  |zero=>
   simp[qb0]at h;subst h;simp[qb0];cases qbw x<;>rfl
  |succ k=>
   simp only[List.take_succ_cons,qb0]at h ⊢;cases hx:qbw x with
   |none=>rw[hx]at h;cases h
   |some v=>
    rw[hx]at h;simp only at h ⊢;cases hl:qb0 (l.take k)with
    |none=>rw[hl]at h;cases h
    |some r=>
     rw[hl]at h;injection h with h;subst h;rw[ih (by simpa using b) hl];simp only[List.getElem_cons_succ];cases qbw (l[k]'(by simpa using b))<;>rfl
def qw8 {l:List By} {k:Nat} (h:qb0 (l.take k)=none):qb0 l=none:=by
 induction l generalizing k with
 |nil=>simpa using h
 |cons x l ih=>
  cases k with
  |zero=>simp[qb0]at h
  |succ k=>
   simp only[List.take_succ_cons,qb0]at h ⊢;cases hx:qbw x with
   |none=>rfl
   |some v=>
    rw[hx]at h;simp only at h ⊢;cases hl:qb0 (l.take k)with
    |none=>rw[ih hl]
    |some r=>rw[hl]at h;cases h
def qbb:∀{l:List By} {a:List Int},qb0 l=some a->a.length=l.length
 |[],a,h=>by simp[qb0]at h;subst h;rfl
 |x::l,a,h=>by
  simp only[qb0]at h;cases hx:qbw x with
  |none=>rw[hx]at h;cases h
  |some v=>
   rw[hx]at h;simp only at h;cases hl:qb0 l with
   |none=>rw[hl]at h;cases h
   |some r=>
    rw[hl]at h;injection h with h;subst h;simp[qbb hl]
def qiw {a:Oa} {A:Nat} {l:List By} {m:Nat} (y:m<=6) (B:∀x∈l,x.size<=1000000) (w:Wl) (g:Gl w) (h:qfj w a A l):
 Ca 114 #[.slice a l.length A,U m] w (qn7 w (ju m l)):=by
 by_cases i:l.length=m
 .subst i;have P:=q20 y w;have n:Hid (ju l.length l=qb0 l):=by show ju l.length l=_;unfold ju;rw[if_pos rfl]
  have aa:=h.cap;have I:qd (w.alloc (.cells (madeCells #[U 0] l.length) 3)) w.heap.size (List.replicate l.length (U 0)):=by
   have:=qd.new (w:=w) (T:=3) (madeCells #[Value.int .i64 0] l.length).toList rfl;rwa [Array.toArray_toList,toList_madeCells_one]at this
  have Q:=hd3 h g B;have J:=boxed (jcc _ w) (.cells (madeCells #[U 0] l.length) 3);have R:=hd1 y;clear h g B y;go_enter func114,ntmps114;go_wp2;go_loopw [17] (λiv wr=>∃(k:Nat) (z:Int) (c:List Int),k<=l.length/\z=k/\iv=U z/\Hid (qb0 (l.take k)=some c/\qd wr w.heap.size (qec c++List.replicate (l.length-k) (U 0))/\Bw w wr)) (λiv _=>l.length-(intOf iv).toNat)
  case atStart=>exact⟨0,0,[],jcw _,rfl,rfl,rfl,I,J⟩
  clear I J P;obtain⟨k,z,c,hk,C,rfl,d⟩:=hrel;have S:=hd1 C;have j:c.length=k:=by rw[qbb d.out.1,jc5];omega
  by_cases q:k<l.length
  .have V:z<(l.length:Int):=oe;have g2:0<=z:=oe;have g3:z.toNat=k:=oe;have g4:z<6:=by have:=R.out;omega
   obtain⟨x,r⟩:∃x,l[k]?=some x:=⟨_,jcg q⟩;obtain⟨K,L,M⟩:=Q.out;obtain⟨b,o,rfl,hb,hc⟩:=(K.later d.out.2.2).cell k x r
   have D:Hid (qb0 (l.take (k+1))=(qbw x).map (λv=>c++[v])):=by
        have:=qw0 q d.out.1;rw[(jck.1 r).2]at this;exact this
   have W:=qw9 x (M x (jcq r)) wr (L.later d.out.2.2);clear K L M C r;go_wp2_with fail
   refine W.mono ?_;rintro e w2 ⟨s,E⟩;have F:=qa d.out.2.2 E;have t:=d.out.2.1.later E;cases hn:qbw x with
   |none=>
    rw[hn]at s;have G:e=.panicked [{v:=.iface 30 (U 3),recovered:=false}]:=s;subst G;have f:=D.out;rw[hn]at f;exact⟨rfl,by unfold qn7;rw[n.out,qw8 f];exact⟨rfl,F⟩⟩
   |some v=>
    rw[hn]at s;have G:e=.returned (U v):=s;subst G;have i:(qec c++List.replicate (l.length-k) (Value.int .i64 0)).length=l.length:=by simp[qec];omega
    have c0:=t.cell k _ (by
        rw[jc0 (by simp[qec,j]),show k-(qec c).length=0 by simp[qec,j],show l.length-k=(l.length-(k+1))+1 by omega];rfl)
    have f0:=t.free k (by rw[i];exact q)
    have N:Hid (qd (w2.setCell (AD w.heap.size k) (U v)) w.heap.size (qec (c++[v])++List.replicate (l.length-(k+1)) (U 0))/\Bw w (w2.setCell (AD w.heap.size k) (U v))):=by
        refine⟨?_,F.setCell (p:=AD w.heap.size k) (jcd _) _⟩;have:=t.set k (U v) (by rw[i];exact q);rw[List.set_append_right _ _ (by simp[qec];omega)]at this;have X:l.length-k=(l.length-(k+1))+1:=oe;rw[X,List.replicate_succ]at this;simpa[qec,j]using this
    have Y:Hid (qb0 (l.take (k+1))=some (c++[v])):=by have f:=D.out;rw[hn]at f;exact f
    clear D hn t F E i j;go_wp2;go_roundw
    case rel=>exact⟨k+1,z+1,c++[v],q,by have:=S.out;omega,oI,Y.out,N.out.1,N.out.2⟩
    simp[intOf];omega
  have V:¬z<(l.length:Int):=oe;have u:k=l.length:=oe;have H:Hid (ju l.length l=some c/\qd wr w.heap.size (qec c)/\Bw w wr):=by
   have O:=d.out.1;have f:=d.out.2.1;rw[u,jc9]at O;rw[u,Nat.sub_self,List.replicate_zero,jdx]at f;exact⟨n.out.trans O,f,d.out.2.2⟩
  have Z:=hd1 (j.trans u);clear C u d n j;go_wp2;go_ret;unfold qn7;rw[H.out.1];exact⟨w.heap.size,by simp[Z.out],H.out.2.1,H.out.2.2⟩
 have n:Hid (ju m l=none):=by show ju m l=none;unfold ju;rw[if_neg i]
 have hne:¬(l.length:Int)=(m:Int):=oe;clear h g B i;go_enter func114,ntmps114;go_wp2;exact⟨rfl,by unfold qn7;rw[n.out];exact⟨rfl,jcc _ _⟩⟩
def ja3 {r:List Int} (h:r.length=2):∃u v,r=[u,v]:=by
 match r,h with
 |[u,v],_=>exact⟨u,v,rfl⟩
section
variable {cap:Nat} {l:List By}
def qi1 (j:∀x∈l,x.size<=1000000) (w:Wl) (g:Gl w) (h:qfj w a cap l):
 Ca 80 #[.slice a l.length cap] w λe w'=>Bw w w'/\((∃v,Hid (ju 1 l=some [v])/\e=.returned (U v))\/(Hid (ju 1 l=none)/\e=qc7 3)):=by
 have k:=qiw (m:=1) oj j w g h;have n:Hid (∀r,ju 1 l=some r->r.length=1):=λr d=>by
  unfold ju at d;split at d
  .rename_i q;rw[qbb d,q]
  cases d
 clear h g j;go_enter func80,ntmps80;go_wp2_with fail
 refine k.mono ?_;rintro e p f;cases hn:ju 1 l with
 |none=>
  rw[hn]at f;obtain⟨rfl,i⟩:e=qc7 3/\_:=f;exact⟨rfl,i,.inr ⟨hn,rfl⟩⟩
 |some r=>
  rw[hn]at f;obtain⟨v,rfl⟩:∃v,r=[v]:=List.length_eq_one_iff.1 (n.out r hn);obtain⟨b,rfl,d,i⟩:=f;have s:=d.c 0;have o:=hd1 hn;clear hn;go_wp2;go_ret;exact⟨i,.inl ⟨v,o,rfl⟩⟩
def qls (j:∀x∈l,x.size<=1000000) (w:Wl) (g:Gl w) (h:qfj w a cap l):
 Ca 82 #[.slice a l.length cap] w λe w'=>Bw w w'/\((∃u v,Hid (ju 2 l=some [u,v])/\e=.returned (.tuple #[U u,U v]))\/(Hid (ju 2 l=none)/\e=qc7 3)):=by
 have k:=qiw (m:=2) oj j w g h;have n:Hid (∀r,ju 2 l=some r->r.length=2):=λr d=>by
  unfold ju at d;split at d
  .rename_i q;rw[qbb d,q]
  cases d
 clear h g j;go_enter func82,ntmps82;go_wp2_with fail
 refine k.mono ?_;rintro e p f;cases hn:ju 2 l with
 |none=>
  rw[hn]at f;obtain⟨rfl,i⟩:e=qc7 3/\_:=f;exact⟨rfl,i,.inr ⟨hn,rfl⟩⟩
 |some r=>
  rw[hn]at f;obtain⟨u,v,rfl⟩:∃u v,r=[u,v]:=ja3 (n.out r hn);obtain⟨b,rfl,d,i⟩:=f;have s:=d.c 0;have t:=d.c 1;have o:=hd1 hn;clear hn;go_wp2;go_region
  go_wp2;go_ret2;exact⟨i.drew,.inl ⟨u,v,o,rfl⟩⟩
def qpc (i:∀x∈l,x.size<=1000000) (w:Wl) (g:Gl w) (h:qfj w a cap l):
 Ca 84 #[.slice a l.length cap] w λe w'=>Bw w w'/\((Hid (ju 0 l=some [])/\e=.returned (.tuple #[]))\/(Hid (ju 0 l=none)/\e=qc7 3)):=by
 have j:=qiw (m:=0) oj i w g h;have k:Hid (∀r,ju 0 l=some r->r.length=0):=λr c=>by
  unfold ju at c;split at c
  .rename_i q;rw[qbb c,q]
  cases c
 clear h g i;go_enter func84,ntmps84;go_wp2_with fail
 refine j.mono ?_;rintro e o d;cases hn:ju 0 l with
 |none=>
  rw[hn]at d;obtain⟨rfl,f⟩:e=qc7 3/\_:=d;exact⟨rfl,f,.inr ⟨hn,rfl⟩⟩
 |some r=>
  rw[hn]at d;obtain rfl:r=[]:=jc2 (k.out r hn);obtain⟨b,rfl,c,f⟩:=d;have n:=hd1 hn;clear hn;go_wp2;go_end0;exact⟨f,.inl ⟨n,rfl⟩⟩
end
def qda (n:Int) (w:Wl) (g:Gl w):Ca 72 #[jc n] w λe w'=>Bw w w'/\((n=0/\e=.returned (.tuple #[]))\/(n≠0/\e=qc7 n)):=by
 unfold jc;by_cases h:n=0
 .rw[if_pos h];go_enter func72,ntmps72;go_wp2;go_end0;exact⟨jcc _ _,.inl ⟨h,rfl⟩⟩
 rw[if_neg h];have T:=qzi n w g.et;have b:Hid (n≠0):=h;clear h;go_enter func72,ntmps72;go_wp2_with fail
 refine T.mono ?_;rintro e d ⟨rfl,c⟩;go_wp2;exact⟨rfl,c,.inr ⟨b.out,rfl⟩⟩
def jz (a b:List UInt8):bya a++bya b=bya (a++b):=by
 apply ByteArray.ext;simp[bya]
def qq7 (n:Int) (b:wfI n) (w:Wl) (g:Gl w):Ca 12 #[U n] w λe w'=>e=.returned (.string (bya (qgt n)))/\Bw w w':=by
 have d:=Lib.itoa_length_le n b.1 b.2;have T:=qsn n b w g;have f:=λw=>qfi (P:=prog) ⟨#[101,114,114,111,114,32]⟩ (bya (Lib.itoa n)) (by show 6+(Lib.itoa n).toArray.size<=_;simp;omega) w;go_enter func12,ntmps12
 go_wp2_with fail
 refine T.mono ?_;rintro e h ⟨rfl,c⟩;go_wp2;go_ret;refine⟨?_,c⟩;have:=jz [101,114,114,111,114,32] (Lib.itoa n);rw[show qgt n=[101,114,114,111,114,32]++Lib.itoa n from rfl,<-this];rfl
def qen (x:Int):By:=bya (Lib.itoa x)
def qn2 (l:List Int):Lib.join ((l.map qen).map (·.data.toList)) [32]=qv l:=by
 unfold qv;rw[List.map_map];congr 1
def qgl (n:Nat):∀(l:List (List UInt8)),(∀x∈l,x.length<=n)->(Lib.join l [32]).length<=l.length*(n+1)
 |[],_=>by simp[Lib.join,List.intercalate]
 |[x],h=>by
  have:=h x oi;simp[Lib.join,List.intercalate];omega
 |x::y::l,h=>by
  have d:=h x oi;have b:=qgl n (y::l) (λz c=>h z (jdc _ c));have e:Lib.join (x::y::l) [32]=x++[32]++Lib.join (y::l) [32]:=by simp[Lib.join,List.intercalate]
  rw[e];simp only[jcl,List.length_cons,List.length_nil]at b ⊢;rw[Nat.succ_mul];omega
variable {l:List Int}
def ze (h:∀x∈l,wfI x):(qv l).length<=l.length*22:=by
 have:=qgl 21 (l.map Lib.itoa) (λy c=>by
  obtain⟨x,b,rfl⟩:=jcz.1 c;exact Lib.itoa_length_le x (h x b).1 (h x b).2)
 simpa[qv]using this
def qg3 {w w':Wl} {B n N:Nat} {T:Tp} {v:Vl} {d:Lv} (h:w.ownsRow B T N v n d) (b:Bw w w'):w'.ownsRow B T N v n d:=qf h (λk e=>b.block k (h.lt k e).2)
def qb1 {b o cap:Nat} (n:l≠[]) (v:l.length<=8) (H:∀x∈l,wfI x) (w:Wl) (g:Gl w) (d:b<w.heap.size) (f:∀(j:Nat) x,l[j]?=some x->w.cell? (AD b (o+j))=some (U x)):
 Ca 87 #[.slice (some (AD b o)) l.length cap] w λe w'=>e=.returned (.string (bya (qv l)))/\Bw w w':=by
 obtain⟨S,hi,V,W,X⟩:=info_parts qki;have r:=hd6 g H d f n v;clear g H d f n v;go_enter func87,ntmps87;go_wp2;go_loopw [3,8] (λI iv wr=>∃(k:Nat) (z:Int),k<=l.length/\z=k/\iv=U z/\Hid (wr.ownsRow w.heap.size 9 1 I k ((l.take k).map (λx=>Value.string (qen x)))/\Bw w wr)) (λ_ iv _=>l.length-(intOf iv).toNat)
 case atStart=>exact⟨0,0,jcw _,rfl,rfl,jcx w _ _ _,jcc _ _⟩
 rename_i I _;obtain⟨k,z,hk,F,rfl,c⟩:=hrel;have Y:=hd1 F;by_cases K:k<l.length
 .have Z:z<(l.length:Int):=oe;have g2:0<=z:=oe;have g3:z.toNat=k:=oe;have g4:z<8:=by have:=r.out.2.2.2.2.2;omega
  obtain⟨x,B⟩:∃x,l[k]?=some x:=⟨_,jcg K⟩;obtain⟨C,s,d,f,_⟩:=r.out;have c0:=(c.out.2.cell (p:=AD b (o+k)) d).trans (f k x B);have T:=qsn x (s x (jcq B)) wr (C.later c.out.2);have L:Hid ((l.take (k+1)).map (λx=>Value.string (qen x))=(l.take k).map (λx=>Value.string (qen x))++[.string (qen x)]):=by
   show _=_;rw[jdu,B];simp
  clear C s d f F B;go_wp2_with fail
  refine T.mono ?_;rintro e A ⟨rfl,t⟩;have M:=boxed (jcc _ A) (.cells #[.string (qen x)] 9);have G:=qg3 (qg3 c.out.1 t) M;have m:=hd1 (qa c.out.2 t);go_wp2_with (at_builtin;refine wpList_append_lies _ rfl _ _ 22 rfl w.heap.size 9 S (.string ⟨#[]⟩) 1 16 underlying22 hi V W X rfl oj _ _ _ rfl G (AD A.heap.size 0) 1 1 [.string (qen x)] rfl rfl (World.news_of_block (heap_alloc_new A (.cells #[.string (qen x)] 9))) ?c2 oj ?c3 ?c4 ?c5 _ rfl ?_)
  case c2=>intro u N;simp at N;subst N;rfl
  case c3=>have:=r.out.2.2.2.2.2;unfold maxLen;omega
  case c4=>have:=r.out.2.2.2.2.2;omega
  case c5=>have:=m.out.size;simp;omega
  intro D E O P Q aa ab;have ac:Hid (O.ownsRow w.heap.size 9 1 (.slice (PT D) (k+1) E) (k+1) ((l.take (k+1)).map (λx=>Value.string (qen x)))/\Bw w O):=by
   refine⟨by rw[L.out];simpa[List.map_take]using P,?_⟩;exact(m.out.alloc m.out.size _).grown Q (by have:=m.out.size;simp;omega) (λq e=>(G.lt q e).1)
  clear P Q aa ab G L M t;go_wp2;go_roundw
  case rel=>exact⟨k+1,z+1,K,by have:=Y.out;omega,oI,ac.out⟩
  simp[intOf];omega
 have Z:¬z<(l.length:Int):=oe;have ad:k=l.length:=oe;subst ad;rw[jc9]at c;obtain⟨C,s,d,f,n,v⟩:=r.out;have ae:=List.length_pos_iff.2 n;obtain⟨D,E,rfl,hB,af⟩:=c.out.1.form ae;have R:=c.out.1.cells (g:=D) rfl;have ag:l.length<=E:=by
  obtain⟨h,_⟩|⟨g',c',cur,hv,_,_,hnc,_⟩:=c.out.1.2
  .cases h
  cases hv;exact hnc
 have J:=jd1 D 0 E (l.map qen) ⟨#[32]⟩ wr (λj y i=>by
  have:=R j (.string y) (by rw[jcv]at i ⊢;cases hq:l[j]?with
   |none=>rw[hq]at i;cases i
   |some q=>rw[hq]at i;injection i with i;subst i;rfl)
  obtain rfl|hj:=Nat.eq_zero_or_pos j
  .simpa[Addr.add]using this
  simpa[Addr.add,Nat.ne_of_gt hj]using this) af ou (by simpa using ag) (by
  rw[show (⟨#[32]⟩:By).data.toList=[32]from rfl,qn2];have:=ze s;omega)
 rw[jdh,show (⟨#[32]⟩:By).data.toList=[32]from rfl,qn2]at J;have m:=hd1 c.out.2;clear C s d f n v R F c;go_wp2_with fail
 refine J.mono ?_;rintro e A ⟨rfl,t⟩;go_wp2;go_ret;exact⟨rfl,qa m.out t⟩
end
section
open _root_.Go.Proofs.Tryz Go.RowKit Go.Maps
def qbu {P:Pq} {o:Oper} {a:Act} {K:Act->Wv} {Q:Exit->Act->Wv} (f:Fi) (args:Av) (g:(execOp a.eval o).run P w=.ok (.enter f args) w) {R:Ending->Wv} (h:Calls P f args w R)
 (k:∀e w',R e w'->(∃v,e=.returned v/\K (a.put o.dst v) w')\/∃c,e=.panicked c/\Q (.panic c) a w'):Oper.wp P o a w K Q:=by
 unfold Oper.wp;rw[g,Oper.upon_enter];refine h.mono λe w' m=>?_;obtain⟨v,rfl,d⟩|⟨c,rfl,d⟩:=k e w' m
 .exact d
 exact d
def q3p (i:Nat):Nat:=[52,53,54,55,56,57,58,59,60,61,62,63,64,65,66,67,68,69,70].getD i 0
def doV (u i:Nat):Vl:=.func (.func (q3p i)) #[PP u] #[]
structure qow (D:DataW Vl) (u n:Nat):Prop where
 size:Maps.size D=n
 has:∀i,i<n->Maps.has D (.string (qn i))=true/\∀z,D.atKey (.string (qn i)) z=.held (doV u i)
 no:∀s,(∀i,i<n->s≠qn i)->Maps.has D (.string s)=false/\∀z,D.atKey (.string s) z=z
def zm (w:Wl) (y u n:Nat):Prop:=∃D,w.ownsMap prog 9 qcd y n D/\qow D u n
def zm.kept (h:zm w y u n) (e:w'.heap[y]?=w.heap[y]?):zm w' y u n:=by
 obtain⟨D,⟨c,d,f,r⟩,g⟩:=h;exact⟨D,⟨c,d,by rw[e];exact f,r⟩,g⟩
def zm.lt (h:zm w y u n):y<w.heap.size:=by
 obtain⟨D,h,_⟩:=h;exact h.lt
structure qe3 (w:Wl) (u y b:Nat) (A:Nat->Prop) (W:WoS):Prop where
 box:w.heap[u]?=some (.cells #[PP b,.map (some y)] 82 (0,0))
 map:zm w y u 19
 pw:PW w b A W
 n1:u≠y
 n2:¬A u
 n3:¬A y
def qvq (u y:Nat) (W:WoS) (w:Wl) (G:Np):Prop:=∃b A,qe3 w u y b A W/\∀k,G k↔(k=u\/k=y\/A k)
variable {C:Wl}
section
variable {A G:Np}
def qe3.ltc (h:qe3 w u y b A W):u<w.heap.size:=(jcs.1 h.box).1
def qe3.kept (h:qe3 w u y b A W) (c:∀k,(k=u\/k=y\/A k)->w'.heap[k]?=w.heap[k]?) (d:w.heap.size<=w'.heap.size):qe3 w' u y b A W:=
 ⟨(c u (.inl rfl)).trans h.box,h.map.kept (c y (.inr (.inl rfl))),h.pw.kept (λk e=>c k (.inr (.inr e))) d,h.n1,h.n2,h.n3⟩
def qvq.lt (h:qvq u y W w G):∀k,G k->k<w.heap.size:=λk c=>by
 obtain⟨b,A,h,d⟩:=h;rcases(d k).1 c with rfl|rfl|e
 .exact h.ltc
 .exact h.map.lt
 exact h.pw.lt k e
def qvq.kept (h:qvq u y W w G) (d:∀k,G k->w'.heap[k]?=w.heap[k]?) (f:w.heap.size<=w'.heap.size):qvq u y W w' G:=by
 obtain⟨b,A,h,c⟩:=h;exact⟨b,A,h.kept (λk e=>d k ((c k).2 e)) f,c⟩
def ckP (u y:Nat) (W:WoS):qfr:=⟨λw G=>qvq u y W w G,λ_ _ h=>h.lt,λ_ _ _ h=>h.kept⟩
def qe3.later (h:qe3 w u y b A W) (c:Bw w w'):qe3 w' u y b A W:=
 h.kept (λk e=>c.block k (by obtain rfl|rfl|e:=e;exact h.ltc;exact h.map.lt;exact h.pw.lt k e)) c.size
def qe3.cell0 (h:qe3 w u y b A W):w.cell? (AD u 0)=some (PP b):=by rw[Lib.cell_of_heap h.box];rfl
def qe3.cell1 (h:qe3 w u y b A W):w.cell? (AD u 1)=some (.map (some y)):=by rw[Lib.cell_of_heap h.box];rfl
def qe3.op (h:qe3 w u y b A W) (d:∀k,G k↔(k=u\/k=y\/A k)) (g:Bw w C) (p:vh C b A W' w'):qbi (ckP u y W') w G w':=by
 obtain⟨o,p1,p2,c⟩:=p;have f:=h.later g;have lc:=f.ltc;have r:=f.map.lt;refine⟨λk=>k=u\/k=y\/o k,⟨b,o,⟨(c.block u lc h.n2).trans f.box,f.map.kept (c.block y r h.n3),p1,h.n1,λe=>?_,λe=>?_⟩,λ_=>jdl⟩,λk m=>?_,?_⟩
 .obtain q|q:=p2 u e
  .exact h.n2 q
  omega
 .obtain q|q:=p2 y e
  .exact h.n3 q
  omega
 .obtain rfl|rfl|e:=m
  .exact .inl ((d k).2 (.inl rfl))
  .exact .inl ((d k).2 (.inr (.inl rfl)))
  obtain q|q:=p2 k e
  .exact .inl ((d k).2 (.inr (.inr q)))
  exact .inr (jcn g.size q)
 exact(qc.ofBelow g).trans ⟨c.os,c.tape,c.output,c.size,λk m s=>c.block k m (λe=>s ((d k).2 (.inr (.inr e))))⟩
def qe3.same (h:qe3 w u y b A W) (d:∀k,G k↔(k=u\/k=y\/A k)) (c:Bw w w'):qbi (ckP u y W) w G w':=
 ⟨G,⟨b,A,h.later c,d⟩,λ_ e=>.inl e,qc.ofBelow c⟩
def qe3.after (h:qbi (ckP u y W') w G C) (c:Bw C w'):qbi (ckP u y W') w G w':=by
 obtain⟨d,p1,p2,f⟩:=h;exact⟨d,p1.kept (λk e=>c.block k (p1.lt k e)) c.size,p2,f.trans (qc.ofBelow c)⟩
end
def qlx (er:Int) (told:List UInt8) (e:Ending):Prop:=(er=0/\e=.returned (.string (bya told)))\/(er≠0/\e=qc7 er)
def jm (i:Nat) (W:WoS) (rest:List By) (w:Wl) (u y:Nat) (G:Np) (e:Ending) (w':Wl):Prop:=
 ∃W' er told,qc2 i W rest W' er told/\qlx er told e/\qbi (ckP u y W') w G w'
structure vk (w:Wl) (u y b:Nat) (A G:Nat->Prop) (W:WoS) (j:Nat) (a:Oa) (B:Nat) (l:List By):Prop where
 ck:qe3 w u y b A W
 g:∀k,G k↔(k=u\/k=y\/A k)
 gl:Gl w
 gn:∀k,k<7->¬G k
 wi:PlI j W
 di:DkI W
 st:qfj w a B l
 sm:∀x∈l,x.size<=1000000
variable {i:Nat} {E:Wl} {er:Int}
section
variable {B:Nat} {A G:Np}
def vk.no (h:vk w u y b A G W j a B l) (e:i≠18) (c:ju (qqi i) l=none) (d:Bw w w'):jm i W l w u y G (qc7 3) w':=
 ⟨W,3,[],by unfold qc2;rw[if_neg e,c];exact⟨rfl,rfl,rfl⟩,.inr ⟨oj,rfl⟩,h.ck.same h.g d⟩
def vk.gl2 (h:vk w u y b A G W j a B l) (c:Bw w C) (m:vh C b A W' E):Gl E:=by
 obtain⟨o,_,_,d⟩:=m;exact(h.gl.later c).kept (λk f=>d.block k (jci f (h.gl.later c).sz) (λe=>h.gn k f ((h.g k).2 (.inr (.inr e))))) d.size
def vk.yes {ns:List Int} {told:List UInt8} {c:Wl} {e:Ending} (h:vk w u y b A G W j a B l) (q:i≠18) (d:ju (qqi i) l=some ns) (f:Bw w C) (k:qaa i W ns (l.getD 2 ⟨#[]⟩) W' er told) (m:vh C b A W' E) (o:Bw E c) (p:qlx er told e):jm i W l w u y G e c:=
 ⟨W',er,told,by unfold qc2;rw[if_neg q,d];exact k,p,qe3.after (h.ck.op h.g f m) o⟩
end
def qaa.data {W:WoS} {l:List Int} {d d':By} {t:List UInt8} (e:i≠18) (h:qaa i W l d W' er t):qaa i W l d' W' er t:=by
 unfold qaa at h ⊢;split at h<;>first|exact h|exact absurd rfl e
end
section
open _root_.Go.Proofs.Tryz Go.RowKit
def q70 {s:By} {v:Int} (h:qbw s=some v):wfI v:=by
 unfold qbw at h;split at h
 .rename_i x c;split at h
  .injection h with h;subst h;have:=Lib.parseIntB_bounds c;simp at this;exact⟨oe,oe⟩
  cases h
 cases h
def qwd:∀{l:List By} {r:List Int},qb0 l=some r->∀v∈r,wfI v
 |[],r,h=>by simp[qb0]at h;subst h;simp
 |x::l,r,h=>by
  simp only[qb0]at h;cases hx:qbw x with
  |none=>rw[hx]at h;cases h
  |some v=>
   rw[hx]at h;simp only at h;cases hl:qb0 l with
   |none=>rw[hl]at h;cases h
   |some q=>
    rw[hl]at h;injection h with h;subst h;intro y c;obtain e|e:=jdd.1 c
    .rw[e];exact q70 hx
    exact qwd hl y e
def q63 {m:Nat} {l:List By} {r:List Int} (h:ju m l=some r):∀v∈r,wfI v:=by
 unfold ju at h;split at h
 .exact qwd h
 cases h
def qnf {key a0 a1 a2 a3:Int} {l:List Hd} (h:∀x∈l,qau x.v=true):(zz key a0 a1 a2 a3 l).1.data.size<=12:=by
 unfold zz;split
 .cases hl:zn key a0 a1 a2 a3 l with
  |none=>exact jcw _
  |some v=>
   obtain⟨x,c,rfl,_⟩:=qr0 hl;have:=h x c;simp only[qau,jct,decide_eq_true_eq]at this;unfold qjj;simp only;split
   .exact jcw _
   show x.v.data.size<=12;have:=this.1.2;omega
 exact jcw _
def qjc {S:qe} {s:qy} {key:Int} (c:qe9 s) (d:j3 S):(vi S s key).1.size<=12:=by
 unfold vi;split
 .exact jcw _
 split
 .rename_i x e;split
  .exact jcw _
  exact c.ws x (q5a e).2
 show (qbq S key s.s0 s.s1 s.s2 s.s3).1.data.size<=12;unfold qbq;split
 .exact qnf d.ok
 exact jcw _
def jbt (W:WoS) (k key:Int) (w:Wl) (e:Ending) (w':Wl):Prop:=
 ∃d er told,qaa 13 W [k,key] ⟨#[]⟩ W er told/\(er=0->told=[105,115,32]++d.data.toList)/\d.size<=12/\e=.returned (.tuple #[.string d,jc er])/\Bw w w'
def q8y {b:Nat} {G:Np} {W:WoS} (k q:Int) (o:wfI q) (w:Wl) (h:PW w b G W) (n:DkI W):Ca 99 #[PP b,U k,U q] w (jbt W k q w):=by
 obtain⟨j,f⟩:=n.pl;by_cases d:ye k W.c
 .obtain⟨i,rfl,r,e⟩:=zq d;exact(q7w q (q8f o) w h f.wf r).mono λ_ _ ⟨g,m⟩=>⟨_,_,_,⟨rfl,by rw[if_pos d];exact⟨rfl,rfl⟩⟩,λ_=>rfl,qjc (n.ses i r) (f.wf.inv _ (f.wf.at_ i r)),g,m⟩
 exact(qzt k q w h d).mono λ_ _ ⟨g,m⟩=>⟨⟨#[]⟩,2,[],⟨rfl,by rw[if_neg d];exact⟨rfl,rfl⟩⟩,λe=>oJ,jcw _,g,m⟩
section
variable {N O:Nat} {Q G:Np}
def vk.told {w:Wl} {i:Nat} {o:List Int} {m:Int} {told:List UInt8} {w':Wl} {e:Ending} (h:vk w N O b Q G W j a A l) (q:i≠18) (c:ju (qqi i) l=some o) (d:qaa i W o ⟨#[]⟩ W m told) (f:Bw w w') (k:qlx m told e):jm i W l w N O G e w':=
 ⟨W,m,told,by unfold qc2;rw[if_neg q,c];exact d.data q,k,h.ck.same h.g f⟩
def q8w (w:Wl) (h:vk w N O b Q G W j a A l):Ca 65 #[PP N,.slice a l.length A] w (jm 13 W l w N O G):=by
 have f:=hd1 h;have m:=λw' s=>qls h.sm w' (h.gl.later (w':=w') s) (h.st.later s);replace m:=m w.drew (jcc _ w).drew;have F:=h.ck.cell0;clear h;go_enter func65,ntmps65
 go_wp2;refine wp_region_any oh ?_;change wpAny _ _ _ _ _ _ _ (World.drew _);refine Wf 0 ?_;go_simp;refine Wf 1 ?_;go_simp;refine Wf 2 ?_;go_simp;refine Wf 4 ?_;go_simp;refine wpAny_ready (rs:=[3,5]) oh oi ?_;refine AllReady.cons rfl (λK c=>?_) (AllReady.cons rfl (λK c=>?_) AllReady.nil);go_simp;refine c _ _ ?_;clear c K;refine wpAny_ready (rs:=[5]) oh oi ?_;refine AllReady.cons rfl (λK c=>?_) AllReady.nil;rw[if_pos (by rfl)];refine qbu 82 #[.slice a l.length A] o9 m ?_;rintro e t ⟨n,(⟨u,v,g,rfl⟩|⟨g,rfl⟩)⟩;rotate_left
 .exact .inr ⟨_,rfl,rfl,f.out.no oj g.out (qa (jcc _ w).drew n)⟩
 rw[if_pos (by rfl)];refine qbu 82 #[.slice a l.length A] o9 m ?_;rintro e t ⟨n,(⟨u,v,g,rfl⟩|⟨g,rfl⟩)⟩;rotate_left
 .exact .inr ⟨_,rfl,rfl,f.out.no oj g.out (qa (jcc _ w).drew n)⟩
 all_goals
  have q:=qa (jcc _ w).drew n;have H:=(f.out.ck.later q).cell0;have x:=q8y u v (q63 g.out v oi) t (f.out.ck.later q).pw f.out.di;refine .inl ⟨_,rfl,?_⟩;go_simp;refine c _ _ ?_;clear c K;refine Wf 6 ?_;go_simp;refine Wf 7 ?_;go_simp
 rotate_left;refine wpAny_ready (rs:=[3]) oh oi ?_;refine AllReady.cons rfl (λK c=>?_) AllReady.nil;go_simp;refine c _ _ ?_;clear c K;all_goals
  refine wpAny_ready (rs:=[8]) oh oi ?_;refine AllReady.cons rfl (λK c=>?_) AllReady.nil;rw[if_pos (by rfl)];refine qbu 99 #[PP b,U u,U v] o9 x ?_;rintro e T ⟨d,V,told,y,z,I,rfl,J⟩;have B:=qa q J;have C:=qda V T (f.out.gl.later B);have r:Hid (∀e o,Bw T o->qlx V told e->jm 13 W l w N O G e o):=λe o p L=>f.out.told oj g.out y (qa B p) L;have D:=hd1 z;have M:=λw=>qfi (P:=prog) ⟨#[105,115,32]⟩ d (by show 3+d.size<=_;omega) w;clear y z I H F x;refine .inl ⟨_,rfl,?_⟩
  go_simp;refine c _ _ ?_;clear c K;refine Wf 9 ?_;go_simp;refine Wf 10 ?_;go_simp;refine Wf 11 ?_;go_simp;refine Wf 12 ?_;go_simp;refine Wf 13 ?_;go_simp;refine wpAny_done oh ?_ _;go_wp2_with fail
  refine C.mono ?_;rintro e o ⟨p,(⟨k,rfl⟩|⟨k,rfl⟩)⟩;rotate_left
  .exact⟨rfl,r.out _ _ p (.inr ⟨k,rfl⟩)⟩
  have E:=r.out _ _ p (.inl ⟨k,rfl⟩);rw[D.out k,<-jz]at E;clear k r C D;go_wp2;go_ret;exact E
end
section
variable {G:Np}
def qee {w:Wl} {T:Tp} (l:List Int):∀(q:Nat) x,l[q]?=some x->(w.alloc (.cells (qec l).toArray T)).cell? (AD w.heap.size (0+q))=some (U x):=λq x c=>by
 rw[mF];exact(qd.new (w:=w) (T:=T) (qec l) rfl).cell q _ (by unfold qec;rw[jcv,c];rfl)
def q9x (w:Wl) (h:vk w z A b B G W j a y l):Ca 63 #[PP z,.slice a l.length y] w (jm 11 W l w z A G):=by
 have d:=hd1 h;have p:=qpc h.sm w h.gl h.st;clear h;go_enter func63,ntmps63;go_wp2_with fail
 refine p.mono ?_;rintro e c ⟨f,(⟨i,rfl⟩|⟨i,rfl⟩)⟩
 .have v:=(d.out.ck.later f).cell0;have k:=(d.out.ck.later f).pw.later (jcc _ c).drew;have s:=q81 c.drew k;have t:=q7z c.drew k;have m:Bw w ((c.alloc (.cells #[U W.net.length,U W.lost] 3)).drew):=(boxed f _).drew;have q:=qb1 (b:=c.heap.size) (o:=0) (cap:=2) (l:=[(W.net.length:Int),W.lost]) oi oi (λx r=>by
   simp at r;obtain rfl|rfl:=r
   .have:=d.out.wi.wf.net;exact⟨oe,oe⟩
   exact d.out.di.lost) ((c.alloc (.cells #[U W.net.length,U W.lost] 3)).drew) (d.out.gl.later m) oi (qee (w:=c) (T:=3) [(W.net.length:Int),W.lost])
  have u:Hid (∀g,Below ((c.alloc (.cells #[U W.net.length,U W.lost] 3)).drew).heap.size ((c.alloc (.cells #[U W.net.length,U W.lost] 3)).drew) g->jm 11 W l w z A G (.returned (.string (bya (qv [(W.net.length:Int),W.lost])))) g):=λg n=>d.out.told oj i.out ⟨rfl,rfl,rfl⟩ (qa m n) (.inl ⟨rfl,rfl⟩)
  dsimp only[List.length_cons,List.length_nil,Nat.reduceAdd]at q;clear m k p;go_wp2;go_region_with (first|(go_at_call 96;refine s.mono ?_;rintro e C ⟨rfl,rfl⟩)|(go_at_call 97;refine t.mono ?_;rintro e C ⟨rfl,rfl⟩)|(go_at_call 87;refine q.mono ?_;rintro e g ⟨rfl,n⟩))
  all_goals
   go_wp2;go_ret;exact u.out _ n
 exact⟨rfl,d.out.no oj i.out f⟩
end
structure jan (W:WoS) (k at_ p0 p1 p2 p3 s0 s1 s2 s3:Int) (op:Bool) (er:Int):Prop where
 cmd:qaa 4 W [k] ⟨#[]⟩ W er (if er=0 then qv [at_]++[44,32]++qv [p0,p1,p2,p3]++if op=true then [44,32]++qv [s0,s1,s2,s3]else []else [])
 wf:∀x∈[at_,p0,p1,p2,p3,s0,s1,s2,s3],wfI x
def j1 {x:Int} (h:qag x):wfI x:=⟨by have:=h.1;omega,by have:=h.2;omega⟩
def qq2 {b:Nat} {G:Np} {W:WoS} (k:Int) (m:DkI W):∃at_ p0 p1 p2 p3 s0 s1 s2 s3 n s,jan W k at_ p0 p1 p2 p3 s0 s1 s2 s3 n s/\∀w,PW w b G W->Ca 86 #[PP b,U k] w (Rn (.tuple #[U at_,.agg #[U p0,U p1,U p2,U p3],.agg #[U s0,U s1,U s2,U s3],.bool n,jc s]) w):=by
 obtain⟨j,o⟩:=m.pl;by_cases g:ye k W.c
 .obtain⟨i,rfl,r,e⟩:=zq g;have d:=m.ses i r;have p:=o.wf.at_ i r;have q:=o.wf.n4;refine⟨_,_,_,_,_,_,_,_,_,_,0,⟨⟨rfl,by rw[if_pos g];exact⟨rfl,rfl⟩⟩,λx f=>?_⟩,λw h=>q26 w h r⟩;simp only[jdd,List.not_mem_nil,or_false]at f;obtain rfl|rfl|rfl|rfl|rfl|rfl|rfl|rfl|rfl:=f
  .exact⟨oe,oe⟩
  .exact j1 d.p0
  .exact j1 d.p1
  .exact j1 d.p2
  .exact j1 d.p3
  .exact j1 d.s0
  .exact j1 d.s1
  .exact j1 d.s2
  exact j1 d.s3
 refine⟨0,0,0,0,0,0,0,0,0,false,2,⟨⟨rfl,by rw[if_neg g];exact⟨rfl,rfl⟩⟩,λx f=>?_⟩,λw h=>qtc k w h g⟩;simp at f;subst f;exact⟨oj,oj⟩
section
variable {G:Np}
def q23 (w:Wl) (h:vk w z A b B G W j a y l) (c:ju 1 l=none):Ca 56 #[PP z,.slice a l.length y] w (jm 4 W l w z A G):=by
 have g:=hd1 h;have i:Hid (∀w',Bw w w'->Ca 80 #[.slice a l.length y] w' λe C=>e=qc7 3/\Bw w' C):=λw' d=>(qi1 h.sm w' (h.gl.later d) (h.st.later d)).mono λe C ⟨k,m⟩=>by
  obtain⟨v,n,_⟩|⟨_,p⟩:=m
  .rw[n.out]at c;cases c
  exact⟨p,k⟩
 have f:=h.ck.cell0;have q:=hd1 c;have t:=λo=>cell_later (boxed (jcc _ w) o) f;have u:=λo r=>cell_later (boxed (boxed (jcc _ w) o) r) f;clear h c;go_enter func56,ntmps56
 go_wp2;go_region_dies
 all_goals
  refine(i.out _ oy).mono ?_;rintro e x ⟨rfl,s⟩;exact⟨rfl,g.out.no oj q.out (qa oy s)⟩
end
end
section
open Go.RowKit
def zo (l:List UInt8):(bya l).size=l.length:=by simp[ByteArray.size]
def qm2 {w:Wl} {b:Nat} {a0 a1 a2 a3:Int} (h:qo w b a0 a1 a2 a3):∀(q:Nat) x,[a0,a1,a2,a3][q]?=some x->w.cell? (AD b (0+q))=some (U x)
 |0,x,hx=>by simp at hx;subst hx;exact h.c0
 |1,x,hx=>by simp at hx;subst hx;exact h.c1
 |2,x,hx=>by simp at hx;subst hx;exact h.c2
 |3,x,hx=>by simp at hx;subst hx;exact h.c3
 |q+4,x,hx=>by simp at hx
end
section
open _root_.Go.Proofs.Tryz Go.RowKit
structure qhm (w:Wl) (b:Nat) (P:Lv):Prop where
 cell:∀j v,P[j]?=some v->w.cell? (AD b j)=some v
 lt:b<w.heap.size
variable {P:Lv}
def qhm.kept (h:qhm w b P) (e:w'.heap[b]?=w.heap[b]?) (c:w.heap.size<=w'.heap.size):qhm w' b P:=
 ⟨λj v d=>by rw[jch (w:=w) e];exact h.cell j v d,jci h.lt c⟩
def qhm.later (h:qhm w b P) (c:Bw w w'):qhm w' b P:=h.kept (c.block b h.lt) c.size
def qhm.far (h:qhm w b P) (p:Addr) (u:Vl) (c:p.block≠b):qhm (w.setCell p u) b P:=h.kept (jce _ _ _ _ (Ne.symm c)) oF
def qhm.boxed (h:qhm w b P) (o:Obj):qhm (w.alloc o) b P:=h.kept (jdg _ _ _ h.lt) oi
def qhm.drew (h:qhm w b P):qhm w.drew b P:=h.kept rfl (jcd _)
structure jbx (W:WoS) (k a0 a1 a2 a3 wn vn er:Int) (tx:List By):Prop where
 cmd:qaa 14 W [k] ⟨#[]⟩ W er (if er=0 then qv [a0,a1,a2,a3]++[44,32]++qv [wn,vn]++[44,32]++Lib.join (tx.map (·.data.toList)) [32]else [])
 wf:∀x∈[a0,a1,a2,a3,wn,vn],wfI x
 tl:tx.length=8
 ts:∀x∈tx,x.size<=13
def jae (w w':Wl) (tx:List By) (v:Vl):Prop:=∃tb tc,v=.slice (PT tb) 8 tc/\8<=tc/\qhm w' tb (tx.map Value.string)/\w.heap.size<=tb
def qno {a0 a1 a2 a3:Int} {l:List Hd} {d:Int} (h:∀x∈l,qau x.v=true):(qdf a0 a1 a2 a3 l d).size<=13:=by
 unfold qdf;split
 .have:=qnf (key:=d) (a0:=a0) (a1:=a1) (a2:=a2) (a3:=a3) h;rw[jc4];show 1+_<=13;omega
 exact jcw _
def q0p {G:Np} {W:WoS} (k:Int) (B:DkI W):∃a0 a1 a2 a3 r s X t,jbx W k a0 a1 a2 a3 r s X t/\∀w,PW w b G W->Ca 100 #[PP b,U k] w λe w'=>∃v,e=.returned (.tuple #[.agg #[U a0,U a1,U a2,U a3],U r,v,U s,jc X])/\Hid (X=0->jae w w' t v)/\Bw w w':=by
 obtain⟨j,o⟩:=B.pl;by_cases m:ye k W.n
 .obtain⟨i,rfl,Y,e⟩:=zq m;have d:=o.wf.inv i Y;have L:=o.wf.wt i Y;have M:=d.len;have N:=d.log;refine⟨_,_,_,_,_,_,0,(List.range 8).map (λ(q:Nat)=>qdf (W.S i).a0 (W.S i).a1 (W.S i).a2 (W.S i).a3 (W.S i).l q),⟨⟨rfl,by rw[if_pos m,if_pos rfl];exact⟨by unfold qmb qc0;rw[List.map_map];rfl,rfl⟩⟩,λx c=>?_,oi,λx c=>?_⟩,λw h=>(jab w h o.wf Y).mono λe w' ⟨v,p,f,C⟩=>⟨v,p,λ_=>?_,C⟩⟩
  .simp only[jdd,List.not_mem_nil,or_false]at c;obtain rfl|rfl|rfl|rfl|rfl|rfl:=c
   .exact j1 d.a0
   .exact j1 d.a1
   .exact j1 d.a2
   .exact j1 d.a3
   .exact⟨oe,oe⟩
   exact⟨oe,oe⟩
  .obtain⟨q,_,rfl⟩:=jcz.1 c;exact qno d.ok
  obtain⟨u,z,rfl,D,E⟩:=f.form oj;have F:=f.cells (g:=u) rfl;have H:8<=z:=by
   obtain⟨h,_⟩|⟨g',O,Z,I,_,_,J,_⟩:=f.2
   .cases h
   cases I;exact J
  refine⟨u,z,rfl,H,⟨λq y A=>?_,E⟩,D⟩;rw[List.map_map]at A;have:=F q y A;obtain rfl|K:=Nat.eq_zero_or_pos q
  .simpa[Addr.add]using this
  simpa[Addr.add,Nat.ne_of_gt K]using this
 refine⟨0,0,0,0,0,0,2,List.replicate 8 ⟨#[]⟩,⟨⟨rfl,by rw[if_neg m];exact⟨rfl,rfl⟩⟩,λx c=>?_,rfl,λx c=>?_⟩,λw h=>(qxw k w h m).mono λe w' ⟨p,f⟩=>⟨_,p,λe=>oJ,f⟩⟩
 .simp at c;subst c;exact⟨oj,oj⟩
 rw[(List.mem_replicate.1 c).2];decide
section
variable {R T Q:Nat} {V G:Np}
def q8r (w:Wl) (h:vk w R T b V G W j a Q l) (c:ju 1 l=none):Ca 66 #[PP R,.slice a l.length Q] w (jm 14 W l w R T G):=by
 have f:=hd1 h;have g:Hid (∀w',Bw w w'->Ca 80 #[.slice a l.length Q] w' λe x=>e=qc7 3/\Bw w' x):=λw' d=>(qi1 h.sm w' (h.gl.later d) (h.st.later d)).mono λe x ⟨i,k⟩=>by
  obtain⟨v,m,_⟩|⟨_,n⟩:=k
  .rw[m.out]at c;cases c
  exact⟨n,i⟩
 have p:=h.ck.cell0;have q:=hd1 c;have s:=λo=>cell_later (boxed (jcc _ w) o) p;clear h c;go_enter func66,ntmps66
 go_wp2;go_region_dies
 all_goals
  refine(g.out _ oy).mono ?_;rintro e t ⟨rfl,r⟩;exact⟨rfl,f.out.no oj q.out (qa oy r)⟩
end
end
section
open _root_.Go.Proofs.Tryz Go.RowKit
structure jb3 (W:WoS) (k site seq wall count d0 d1 d2 d3 er:Int) (W':WoS) (told:List UInt8):Prop where
 cmd:qaa 5 W [k] ⟨#[]⟩ W' er told
 yes:er=0->told=if seq=0 then [110,111,116,104,105,110,103]else qv [site,seq,wall,count]++[58,32]++qv [d0,d1,d2,d3]
 wf:∀x∈[site,seq,wall,count,d0,d1,d2,d3],wfI x
def jaq {t:TxP} (h:okT t=true):∀x∈[t.site,t.seq,t.wall,t.count,t.d0,t.d1,t.d2,t.d3],wfI x:=by
 simp only[okT,jt,jb,qi,jct,jk,decide_eq_true_eq]at h;intro x c;simp only[jdd,List.not_mem_nil,or_false]at c;obtain rfl|rfl|rfl|rfl|rfl|rfl|rfl|rfl:=c<;>exact⟨oe,oe⟩
def q61 {k:Nat} (i:DkI W) (g:k<W.c):∀x∈[(wcT W k).site,(wcT W k).seq,(wcT W k).wall,(wcT W k).count,(wcT W k).d0,(wcT W k).d1,(wcT W k).d2,(wcT W k).d3],wfI x:=by
 obtain⟨j,d⟩:=i.pl;by_cases q:0<(wcT W k).seq
 .exact jaq (d.told g q).1
 have z:wcT W k=⟨0,0,0,0,0,0,0,0,[]⟩:=by
  unfold wcT qce at q ⊢;split at q
  .rename_i e;rw[if_pos e]
  rename_i e;rw[if_neg e];unfold qha at q ⊢;split at q
  .rename_i f;exfalso;apply q
   have:=qis (ws:=jh (W.ses k).ws) (d.wf.inv _ (d.wf.at_ k g)) f;simp only[okT,jt,jct,jk]at this;have:=this.1.1.1.1.2.1;omega
  rename_i f;rw[if_neg f]
 rw[z];intro x h;simp at h;subst h;exact⟨oj,oj⟩
def qrx {b:Nat} {G:Np} (k:Int) (o:DkI W):∃p r wall s u v y z H M told,jb3 W k p r wall s u v y z H M told/\∀w,PW w b G W->Ca 88 #[PP b,U k] w λe w'=>∃C n wc,e=.returned (.tuple #[.agg (List.toArray (T9 p r wall s u v y z C n wc)),jc H])/\vh w b G M w':=by
 obtain⟨j,A⟩:=o.pl;by_cases d:ye k W.c
 .obtain⟨i,rfl,F,e⟩:=zq d;refine⟨_,_,_,_,_,_,_,_,_,_,_,⟨by
   show qaa 5 W [(i:Int)] ⟨#[]⟩ (wcW W i) (wcE W i) (qgx W i);unfold qaa;simp only;rw[if_pos d];exact⟨rfl,rfl,rfl⟩,λ_=>rfl,q61 o F⟩,λw h=>(q04 w h A.wf F (λq=>(A.told F q).1)).mono λe w' ⟨m,f,g,D⟩=>?_⟩
  obtain⟨_,E,p1,p2,p3,_⟩:=D.out;refine⟨m.wa,m.t.ws.length,m.wc,?_,E,p1,p2,p3⟩;rw[f];unfold txV;rw[g]
 refine⟨0,0,0,0,0,0,0,0,2,W,[],⟨by
  show if ye k W.c then _ else _
  rw[if_neg d];exact⟨rfl,rfl,rfl⟩,λe=>oJ,λx B=>?_⟩,λw h=>(qsr k w h d).mono λe w' ⟨f,g⟩=>⟨none,0,0,f,vh.same h g⟩⟩
 simp at B;subst B;exact⟨oj,oj⟩
section
variable {I K J:Nat} {L G:Np}
def vk.opAt {w o s p:Wl} {M:WoS} {i:Nat} (h:vk w I K b L G W j a J l) (f:Bw w o) (t:vh o b L M s) (B:w.heap.size<=i) (C:i<o.heap.size) (c:qc (λk=>k=i) s p):qbi (ckP I K M) w G p/\Gl p:=by
 obtain⟨r,p1,p2,d⟩:=t;have n:=h.ck.later f;have lc:=n.ltc;have u:=n.map.lt;have D:=h.ck.ltc;have E:=h.ck.map.lt;have v:¬r i:=λe=>by
  obtain q|q:=p2 i e
  .have:=h.ck.pw.lt i q;omega
  omega
 have F:=d.size;refine⟨⟨λk=>k=I\/k=K\/r k,⟨b,r,⟨(c.block I oe oe).trans ((d.block I lc h.ck.n2).trans n.box),(n.map.kept (d.block K u h.ck.n3)).kept (c.block K oe oe),p1.kept (λk e=>c.block k (p1.lt k e) (λx=>v (x▸e))) c.size,h.ck.n1,λe=>?_,λe=>?_⟩,λ_=>jdl⟩,λk m=>?_,?_⟩,?_⟩
 .obtain q|q:=p2 I e
  .exact h.ck.n2 q
  omega
 .obtain q|q:=p2 K e
  .exact h.ck.n3 q
  omega
 .obtain rfl|rfl|e:=m
  .exact .inl ((h.g k).2 (.inl rfl))
  .exact .inl ((h.g k).2 (.inr (.inl rfl)))
  obtain q|q:=p2 k e
  .exact .inl ((h.g k).2 (.inr (.inr q)))
  exact .inr (jcn f.size q)
 .refine⟨c.os.trans (d.os.trans f.os),c.tape.trans (d.tape.trans f.tape),c.output.trans (d.output.trans f.output),jcn f.size (jcn d.size c.size),λk m y=>?_⟩;have z:=jci m f.size;rw[c.block k oe oe,d.block k z (λe=>y ((h.g k).2 (.inr (.inr e)))),f.block k m]
 have A:=h.gl.later f;have H:=h.gl.sz;refine A.kept (λk m=>?_) (jcn d.size c.size);rw[c.block k oe oe,d.block k oe (λe=>h.gn k m ((h.g k).2 (.inr (.inr e))))]
def q2v (w:Wl) (h:vk w I K b L G W j a J l) (c:ju 1 l=none):Ca 57 #[PP I,.slice a l.length J] w (jm 5 W l w I K G):=by
 have f:=hd1 h;have g:Hid (∀w',Bw w w'->Ca 80 #[.slice a l.length J] w' λe x=>e=qc7 3/\Bw w' x):=λw' d=>(qi1 h.sm w' (h.gl.later d) (h.st.later d)).mono λe x ⟨i,k⟩=>by
  obtain⟨v,m,_⟩|⟨_,n⟩:=k
  .rw[m.out]at c;cases c
  exact⟨n,i⟩
 have p:=h.ck.cell0;have q:=hd1 c;have s:=λo=>cell_later (boxed (jcc _ w) o) p;clear h c;go_enter func57,ntmps57
 go_wp2;go_region_dies
 all_goals
  refine(g.out _ oy).mono ?_;rintro e t ⟨rfl,r⟩;exact⟨rfl,f.out.no oj q.out (qa oy r)⟩
end
end
section
def q7d {a b c d:Int} (h:∀x∈[a,b,c,d],wfI x):(qv [a,b,c,d]).length<=88:=by have:=ze h;simpa using this
variable {K:WoS} {t:List UInt8}
def qaa.len {i:Nat} {l:List Int} {d:By} {M:Int} (g:DkI W) (h:qaa i W l d K M t) (v:M=0):t.length<=400:=by
 have n:=h;unfold qaa at h;split at h;case h_5 k=>
  obtain⟨at_,p0,p1,p2,p3,s0,s1,s2,s3,I,e,C,_⟩:=qq2 (b:=0) (G:=λ_=>False) k g;rw[(qaa.det (n.data (d':=⟨#[]⟩) oj) C.cmd).2.2];split
  .have L:(qv [at_]).length<=22:=by have:=ze (l:=[at_]) (λx f=>C.wf x (by simp at f;simp[f]));simpa using this
   have p:=q7d (a:=p0) (b:=p1) (c:=p2) (d:=p3) (λx f=>C.wf x (by simp at f ⊢;obtain e|e|e|e:=f<;>simp[e]));have o:=q7d (a:=s0) (b:=s1) (c:=s2) (d:=s3) (λx f=>C.wf x (by simp at f ⊢;obtain e|e|e|e:=f<;>simp[e]));split<;>simp only[jcl,List.length_cons,List.length_nil]<;>omega
  simp
 case h_6 k=>
  obtain⟨a,b,c,d,w,z,A,B,e,J,told,C,_⟩:=qrx (b:=0) (G:=λ_=>False) k g;obtain⟨_,D,E⟩:=qaa.det (n.data (d':=⟨#[]⟩) oj) C.cmd;rw[E,C.yes (D▸v)];have p:=q7d (a:=a) (b:=b) (c:=c) (d:=d) (λx f=>C.wf x (by simp at f ⊢;obtain e|e|e|e:=f<;>simp[e]));have o:=q7d (a:=w) (b:=z) (c:=A) (d:=B) (λx f=>C.wf x (by simp at f ⊢;obtain e|e|e|e:=f<;>simp[e]));split
  .decide
  simp only[jcl,List.length_cons,List.length_nil];omega
 case h_12=>
  obtain⟨j,m⟩:=g.pl;have:=m.wf.net;rw[h.1];have L:=ze (l:=[(W.net.length:Int),W.lost]) (λx f=>by
   simp at f;obtain rfl|rfl:=f
   .exact⟨oe,oe⟩
   exact g.lost)
  simp at L;omega
 case h_14 k key=>
  have h:=h.2;split at h
  .rename_i q;obtain⟨i,rfl,N,e⟩:=zq q;obtain⟨j,m⟩:=g.pl;have:=qjc (S:=W.S (W.at_ i)) (s:=W.ses i) (key:=key) (g.ses i N) (m.wf.inv _ (m.wf.at_ i N));rw[h.1,e];rw[Lib.size_eq]at this;simp only[jcl,List.length_cons,List.length_nil];omega
  rw[h.1];simp
 case h_15 k=>
  obtain⟨a0,a1,a2,a3,r,u,e,F,C,_⟩:=q0p (b:=0) (G:=λ_=>False) k g;rw[(qaa.det (n.data (d':=⟨#[]⟩) oj) C.cmd).2.2];split
  .have p:=q7d (a:=a0) (b:=a1) (c:=a2) (d:=a3) (λx f=>C.wf x (by simp at f ⊢;obtain e|e|e|e:=f<;>simp[e]));have L:(qv [r,u]).length<=44:=by have:=ze (l:=[r,u]) (λx f=>C.wf x (by simp at f ⊢;obtain e|e:=f<;>simp[e]));simpa using this
   have o:=qgl 13 (F.map (·.data.toList)) (λy H=>by obtain⟨x,f,rfl⟩:=jcz.1 H;exact C.ts x f);rw[jdh,C.tl]at o;simp only[jcl,List.length_cons,List.length_nil];omega
  simp
 case h_20=>exact h.elim
 all_goals (rw[h.1];decide)
def qas.len {c:By} (d:DkI W) (h:qas W c K t):t.length<=400:=by
 have i:∀n:Int,Few n->(qgt n).length<=400:=λn b=>by
  have:=Lib.itoa_length_le n b.wf.1 b.wf.2;unfold qgt;simp only[jcl,List.length_cons,List.length_nil];omega
 unfold qas at h;split at h
 .rw[h.2];decide
 split at h
 .rw[h.2];exact i 3 jaf
 obtain⟨e,u,a,rfl⟩:=h;split
 .rename_i f;unfold qc2 at a;split at a
  .rw[a.2.2];simp
  exact a.len d f
 exact i e a.few
def qas.keeps {b:By} (a:DkI W) (h:qas W b K t):DkI K:=by
 unfold qas at h;split at h
 .rw[h.1];exact a
 split at h
 .rw[h.1];exact a
 obtain⟨e,u,c,_⟩:=h;exact a.does c
end
def qd8.len {W A:WoS} {l:List By} {s:List UInt8} (b:DkI W) (h:qd8 W l s A):s.length<=401*l.length/\DkI A:=by
 induction h with
 |nil=>exact⟨oi,b⟩
 |snoc h1 h2 ih=>
  obtain⟨c,a⟩:=ih;have:=h2.len a;refine⟨?_,h2.keeps a⟩;simp only[jcl,List.length_cons,List.length_nil];omega
def qvc (s:List UInt8):(qao s).length<=s.length+1/\∀x∈qao s,x.length<=s.length:=by
 induction s with
 |nil=>simp[qao]
 |cons c r ih=>
  rw[qg4];by_cases e:c=10
  .rw[if_pos e];refine⟨by simp only[List.length_cons];have:=ih.1;omega,λx a=>?_⟩;obtain rfl|q:=jdd.1 a
   .simp
   have:=ih.2 x q;simp only[List.length_cons];omega
  rw[if_neg e];cases h:qao r with
  |nil=>exact absurd h (qrs r)
  |cons y z=>
   rw[h]at ih;refine⟨by have:=ih.1;simp only[List.length_cons]at this ⊢;omega,λx a=>?_⟩;obtain rfl|q:=jdd.1 a
   .have:=ih.2 y oi;simp only[List.length_cons];omega
   have:=ih.2 x (by simp[q]);simp only[List.length_cons];omega
def q4v (s:List UInt8):(Lib.trimSuffix s [10]).length<=s.length:=by
 unfold Lib.trimSuffix;split
 .simp
 exact jcd _
def qu7 (s:List UInt8):(qfq s).length<=s.length+1/\∀x∈qfq s,x.length<=s.length:=by
 have h:=qvc (Lib.trimSuffix s [10]);have:=q4v s;exact⟨by have:=h.1;unfold qfq;omega,λx a=>jcn (h.2 x a) this⟩
section
open Tryz Go.RowKit Go.Maps
def qhg:Keyed prog 9:=string_keyed underlying9
def qps {s:By} (h:s.size<=maxLen):keyOf prog 9 (.string s)=some (.string s.data.toList):=by
 unfold keyOf;rw[underlying9];simp[mapKey,h,underlying9]
def q0a (s:List UInt8):WideAt.IsKeyLit (.string s):=trivial
def qo8:∀i<19,∀j<19,qn i=qn j->i=j:=oj
def qow.put {D:DataW Vl} (c:Tidy D) (h:qow D A n) (f:n<19):qow (D.put (.string (qn n)) (.held (doV A n))) A (n+1):=by
 have j:=h.no (qn n) (λi k e=>by have:=qo8 n f i oe e;omega);refine⟨?_,λi k=>?_,λs g=>?_⟩
 .rw[size_put c,j.1,h.size];simp
 .by_cases e:i=n
  .subst e;exact⟨has_put_same c.isMap (q0a _) _,λz=>atKey_put_same c.isMap (q0a _) _ z⟩
  have a:(Lit.string (qn i))≠.string (qn n):=λd=>e (qo8 i oe n f (by injection d));have b:=h.has i oe;exact⟨by rw[has_put_other a];exact b.1,λz=>by rw[atKey_put_other a];exact b.2 z⟩
 have a:(Lit.string s)≠.string (qn n):=λd=>g n oe (by injection d);have b:=h.no s (λi k=>g i oe);exact⟨by rw[has_put_other a];exact b.1,λz=>by rw[atKey_put_other a];exact b.2 z⟩
def zm.made (w:Wl) (A:Nat):zm (w.alloc (.map #[] 0)) w.heap.size A 0:=
 ⟨_,World.ownsMap_made w _ _ _,⟨rfl,λi a=>absurd a oe,λ_ _=>⟨rfl,λ_=>rfl⟩⟩⟩
variable {mb:Nat}
def zm.put (n:Nat) (s:By) (h:zm w mb A n) (b:n<19) (c:s.data.toList=qn n) (e:s.size<=maxLen):∃w',(Instr.mapUpdate 80 (.map (some mb)) (.string s) (doV A n)).run prog w=.ok () w'/\Hid (zm w' mb A (n+1)/\w.grownBy w' (some mb)):=by
 obtain⟨D,o,d⟩:=h;obtain⟨w',f,a,t⟩:=o.store qhg underlying80 oN (qps e) (val:=doV A n) (d:=.held (doV A n)) (ps:=[]) rfl;rw[c]at a;exact⟨w',f,⟨_,a,d.put (o.tidy qhg) b⟩,t.grown⟩
def jo {b h:Wl} (a:Below n w b) (d:n<=mb) (g:b.grownBy h (some mb)) (f:n<=b.heap.size):Below n w h:=
 ⟨g.os.trans a.os,g.tape.trans a.tape,g.output.trans a.output,jcn a.size g.size,λk c=>(g.block k oe (λe=>by injection e with e;omega)).trans (a.block k c)⟩
def q02 (A:Nat) (w:Wl):Ca 38 #[PP A] w λe w'=>e=.returned (.map (some w.heap.size))/\zm w' w.heap.size A 19/\Bw w w':=by
 have a:=hd2 (zm.made w A) (show Bw w (w.alloc (.map #[] 0))from boxed (jcc _ w) _);obtain⟨v,P,H⟩:=zm.put 0 ⟨#[97,98,111,114,116]⟩ a.out.1 oe (by rfl) oj;have b:=hd2 (show zm v w.heap.size A 1 from H.out.1) (jo a.out.2 (jcd _) H.out.2 a.out.2.size);replace P:(Instr.mapUpdate 80 (.map (some w.heap.size)) (.string ⟨#[97,98,111,114,116]⟩) (.func (.func 52) #[PP A] #[])).run prog (w.alloc (.map #[] 0))=.ok () v:=P;clear H a;obtain⟨w2,Q,H⟩:=zm.put 1 ⟨#[97,115,107]⟩ b.out.1 oe (by rfl) oj;have c:=hd2 (show zm w2 w.heap.size A 2 from H.out.1) (jo b.out.2 (jcd _) H.out.2 b.out.2.size);replace Q:(Instr.mapUpdate 80 (.map (some w.heap.size)) (.string ⟨#[97,115,107]⟩) (.func (.func 53) #[PP A] #[])).run prog v=.ok () w2:=Q;clear H b;obtain⟨x,R,H⟩:=zm.put 2 ⟨#[98,101,103,105,110]⟩ c.out.1 oe (by rfl) oj;have d:=hd2 (show zm x w.heap.size A 3 from H.out.1) (jo c.out.2 (jcd _) H.out.2 c.out.2.size);replace R:(Instr.mapUpdate 80 (.map (some w.heap.size)) (.string ⟨#[98,101,103,105,110]⟩) (.func (.func 54) #[PP A] #[])).run prog w2=.ok () x:=R;clear H c;obtain⟨y,S,H⟩:=zm.put 3 ⟨#[99,97,108,109]⟩ d.out.1 oe (by rfl) oj;have f:=hd2 (show zm y w.heap.size A 4 from H.out.1) (jo d.out.2 (jcd _) H.out.2 d.out.2.size);replace S:(Instr.mapUpdate 80 (.map (some w.heap.size)) (.string ⟨#[99,97,108,109]⟩) (.func (.func 55) #[PP A] #[])).run prog x=.ok () y:=S;clear H d;obtain⟨z,T,H⟩:=zm.put 4 ⟨#[99,108,105,101,110,116]⟩ f.out.1 oe (by rfl) oj;have g:=hd2 (show zm z w.heap.size A 5 from H.out.1) (jo f.out.2 (jcd _) H.out.2 f.out.2.size);replace T:(Instr.mapUpdate 80 (.map (some w.heap.size)) (.string ⟨#[99,108,105,101,110,116]⟩) (.func (.func 56) #[PP A] #[])).run prog y=.ok () z:=T;clear H f;obtain⟨B,V,H⟩:=zm.put 5 ⟨#[99,111,109,109,105,116]⟩ g.out.1 oe (by rfl) oj;have h:=hd2 (show zm B w.heap.size A 6 from H.out.1) (jo g.out.2 (jcd _) H.out.2 g.out.2.size);replace V:(Instr.mapUpdate 80 (.map (some w.heap.size)) (.string ⟨#[99,111,109,109,105,116]⟩) (.func (.func 57) #[PP A] #[])).run prog z=.ok () B:=V;clear H g;obtain⟨C,W,H⟩:=zm.put 6 ⟨#[100,101,108,105,118,101,114]⟩ h.out.1 oe (by rfl) oj;have i:=hd2 (show zm C w.heap.size A 7 from H.out.1) (jo h.out.2 (jcd _) H.out.2 h.out.2.size);replace W:(Instr.mapUpdate 80 (.map (some w.heap.size)) (.string ⟨#[100,101,108,105,118,101,114]⟩) (.func (.func 58) #[PP A] #[])).run prog B=.ok () C:=W;clear H h;obtain⟨D,X,H⟩:=zm.put 7 ⟨#[100,114,111,112]⟩ i.out.1 oe (by rfl) oj;have j:=hd2 (show zm D w.heap.size A 8 from H.out.1) (jo i.out.2 (jcd _) H.out.2 i.out.2.size);replace X:(Instr.mapUpdate 80 (.map (some w.heap.size)) (.string ⟨#[100,114,111,112]⟩) (.func (.func 59) #[PP A] #[])).run prog C=.ok () D:=X;clear H i;obtain⟨E,Y,H⟩:=zm.put 8 ⟨#[103,111,101,115]⟩ j.out.1 oe (by rfl) oj;have k:=hd2 (show zm E w.heap.size A 9 from H.out.1) (jo j.out.2 (jcd _) H.out.2 j.out.2.size);replace Y:(Instr.mapUpdate 80 (.map (some w.heap.size)) (.string ⟨#[103,111,101,115]⟩) (.func (.func 60) #[PP A] #[])).run prog D=.ok () E:=Y;clear H j;obtain⟨F,Z,H⟩:=zm.put 9 ⟨#[104,101,108,112]⟩ k.out.1 oe (by rfl) oj;have l:=hd2 (show zm F w.heap.size A 10 from H.out.1) (jo k.out.2 (jcd _) H.out.2 k.out.2.size);replace Z:(Instr.mapUpdate 80 (.map (some w.heap.size)) (.string ⟨#[104,101,108,112]⟩) (.func (.func 61) #[PP A] #[])).run prog E=.ok () F:=Z;clear H k;obtain⟨G,aa,H⟩:=zm.put 10 ⟨#[108,111,115,101]⟩ l.out.1 oe (by rfl) oj;have m:=hd2 (show zm G w.heap.size A 11 from H.out.1) (jo l.out.2 (jcd _) H.out.2 l.out.2.size);replace aa:(Instr.mapUpdate 80 (.map (some w.heap.size)) (.string ⟨#[108,111,115,101]⟩) (.func (.func 62) #[PP A] #[])).run prog F=.ok () G:=aa;clear H l;obtain⟨I,ab,H⟩:=zm.put 11 ⟨#[109,97,110,121]⟩ m.out.1 oe (by rfl) oj;have o:=hd2 (show zm I w.heap.size A 12 from H.out.1) (jo m.out.2 (jcd _) H.out.2 m.out.2.size);replace ab:(Instr.mapUpdate 80 (.map (some w.heap.size)) (.string ⟨#[109,97,110,121]⟩) (.func (.func 63) #[PP A] #[])).run prog G=.ok () I:=ab;clear H m;obtain⟨J,ac,H⟩:=zm.put 12 ⟨#[109,111,118,101]⟩ o.out.1 oe (by rfl) oj;have p:=hd2 (show zm J w.heap.size A 13 from H.out.1) (jo o.out.2 (jcd _) H.out.2 o.out.2.size);replace ac:(Instr.mapUpdate 80 (.map (some w.heap.size)) (.string ⟨#[109,111,118,101]⟩) (.func (.func 64) #[PP A] #[])).run prog I=.ok () J:=ac;clear H o;obtain⟨K,ad,H⟩:=zm.put 13 ⟨#[114,101,97,100]⟩ p.out.1 oe (by rfl) oj;have q:=hd2 (show zm K w.heap.size A 14 from H.out.1) (jo p.out.2 (jcd _) H.out.2 p.out.2.size);replace ad:(Instr.mapUpdate 80 (.map (some w.heap.size)) (.string ⟨#[114,101,97,100]⟩) (.func (.func 65) #[PP A] #[])).run prog J=.ok () K:=ad;clear H p;obtain⟨L,ae,H⟩:=zm.put 14 ⟨#[115,105,116,101]⟩ q.out.1 oe (by rfl) oj;have r:=hd2 (show zm L w.heap.size A 15 from H.out.1) (jo q.out.2 (jcd _) H.out.2 q.out.2.size);replace ae:(Instr.mapUpdate 80 (.map (some w.heap.size)) (.string ⟨#[115,105,116,101]⟩) (.func (.func 66) #[PP A] #[])).run prog K=.ok () L:=ae;clear H q;obtain⟨M,af,H⟩:=zm.put 15 ⟨#[115,119,101,101,112]⟩ r.out.1 oe (by rfl) oj;have s:=hd2 (show zm M w.heap.size A 16 from H.out.1) (jo r.out.2 (jcd _) H.out.2 r.out.2.size);replace af:(Instr.mapUpdate 80 (.map (some w.heap.size)) (.string ⟨#[115,119,101,101,112]⟩) (.func (.func 67) #[PP A] #[])).run prog L=.ok () M:=af;clear H r;obtain⟨N,ag,H⟩:=zm.put 16 ⟨#[116,119,105,99,101]⟩ s.out.1 oe (by rfl) oj;have t:=hd2 (show zm N w.heap.size A 17 from H.out.1) (jo s.out.2 (jcd _) H.out.2 s.out.2.size);replace ag:(Instr.mapUpdate 80 (.map (some w.heap.size)) (.string ⟨#[116,119,105,99,101]⟩) (.func (.func 68) #[PP A] #[])).run prog M=.ok () N:=ag;clear H s;obtain⟨O,ah,H⟩:=zm.put 17 ⟨#[119,111,114,108,100]⟩ t.out.1 oe (by rfl) oj;have u:=hd2 (show zm O w.heap.size A 18 from H.out.1) (jo t.out.2 (jcd _) H.out.2 t.out.2.size);replace ah:(Instr.mapUpdate 80 (.map (some w.heap.size)) (.string ⟨#[119,111,114,108,100]⟩) (.func (.func 69) #[PP A] #[])).run prog N=.ok () O:=ah;clear H t;obtain⟨ai,aj,H⟩:=zm.put 18 ⟨#[119,114,105,116,101]⟩ u.out.1 oe (by rfl) oj;have ak:=hd2 (show zm ai w.heap.size A 19 from H.out.1) (jo u.out.2 (jcd _) H.out.2 u.out.2.size);replace aj:(Instr.mapUpdate 80 (.map (some w.heap.size)) (.string ⟨#[119,114,105,116,101]⟩) (.func (.func 70) #[PP A] #[])).run prog O=.ok () ai:=aj;clear H u;have al:=@run_makeMap prog;go_enter func38,ntmps38;go_wp2;go_ret;exact⟨rfl,ak.out.1,ak.out.2⟩
end
section
open _root_.Go.Proofs.Tryz Go.RowKit Go.Lib
def qub (x:Nat) (w:Wl):Ca 77 #[.int .i32 (x:Int)] w λe w'=>e=.returned (.bool (decide (x=32)))/\w'=w:=by
 have h:((x:Int)==32)=decide (x=32):=by rw[Bool.eq_iff_iff,beq_iff_eq,decide_eq_true_eq];omega
 go_enter func77,ntmps77;go_wp2;go_ret;exact⟨rfl,rfl⟩
def qkj (s:By) (d:s.size<=4294967296) (w:Wl):Ca 45 #[.string s] w λe w'=>∃A,e=.returned (.slice (PT A) (qa9 s).length (qa9 s).length)/\w.heap.size<=A/\qfj w' (PT A) (qa9 s).length (qa9 s)/\Bw w w':=by
 have b:=jd4 77 #[] (λargs w=>oh) (λr=>decide (r=32)) s w d (λW x _ _=>(qub x W).mono λe w' ⟨f,g⟩=>⟨f,0,g⟩);go_enter func45,ntmps45;go_wp2_with fail
 refine b.mono ?_;rintro e h ⟨A,rfl,i,a,k⟩;have l:Hid (qfj h (PT A) (qa9 s).length (qa9 s)):=⟨jcd _,λj x c=>⟨A,0,rfl,(a.lt A rfl).2,by
  have m:=(jck.1 c).1;rw[mF,a.cellAt j (by rw[Nat.mul_one];exact m),jcv];show Option.map _ (qa9 s)[j]?=_;rw[c];rfl⟩⟩
 clear a b;go_wp2;go_ret;exact⟨A,rfl,i,l.out,k⟩
end
section
open _root_.Go.Proofs.Tryz Go.RowKit
def qo4 (p:Addr) (w:Wl):
 CallsD prog 44 #[.pointer (some p)] .returning w λe a w'=>e=.returned (.tuple #[])/\a=.returning/\w'=w:=by
 have b:∀w,(Instr.typeAssert .nilIface 20 30 true).run prog w=.ok (.tuple #[U 0,.bool false]) w:=λ_=>oh
 refine callsD_of_wpS func44 rfl λc f d=>?_
 apply wpS_seq;apply wpS_region;simp[wpOpsS,go_sem,recoverD,d,ntmps44,Exit.thenS,b];apply wpS_seq;apply wpS_region;simp[wpOpsS,go_sem,Exit.thenS];refine wpS_cond (t:=false) (by simp[Act.eval,Array.replicate]) ?_;simp only[Bool.false_eq_true,if_false];refine wpS_of_wp (wp_skip ?_);cases c;simp_all [bodyPostS,results,results44]
def qny (p:Addr) (s:Vl) (n:Int) (f:wfI n) (b:List PanicEntry) (w:Wl) (g:Gl w) (c:w.cell? p=some s) (h:w.frozen? p=false):
 CallsD prog 44 #[.pointer (some p)] (.panicking ({v:=.iface 30 (U n),recovered:=false}::b)) w λe i w'=>
  e=.returned (.tuple #[])/\i=.panicking ({v:=.iface 30 (U n),recovered:=true}::b)/\∃x,Bw w x/\w'=x.setCell p (.string (bya (qgt n))):=by
 have j:∀w,(Instr.typeAssert (.iface 30 (U n)) 20 30 true).run prog w=.ok (.tuple #[U n,.bool true]) w:=λ_=>oh
 have k:=qq7 n f w g;refine callsD_of_wpS func44 rfl λm o l=>?_
 apply wpS_seq;apply wpS_region;simp[wpOpsS,go_sem,recoverD,l,ntmps44,Exit.thenS,j];apply wpS_seq;apply wpS_region;simp[wpOpsS,go_sem,Exit.thenS];refine wpS_cond (t:=true) (by simp[Act.eval,Array.replicate]) ?_;simp only[if_true];refine wpS_of_wp ?_;simp only[Array.replicate,List.replicate,List.setIfInBounds_toArray,List.set_cons_zero,List.set_cons_succ,List.append_toArray,jdj,jda];go_wp2_with fail
 refine k.mono ?_;rintro e x ⟨rfl,a⟩;have d:=jcr _ _ c;have q:=(a.cell d).trans c;have r:=(a.frozen d).trans h;go_wp2;simp[bodyPostS,results,results44];exact⟨x,a,rfl⟩
end
open _root_.Go.Proofs.Tryz Go.RowKit Go.Maps
def q34 (x:List UInt8):x∈qc9↔∃i,i<19/\x=qn i:=by
 constructor
 .intro h;obtain⟨i,a,e⟩:=jdm.1 h;exact⟨i,a,by unfold qn;rw[jdp,jcg a];exact e.symm⟩
 rintro ⟨i,a,rfl⟩;unfold qn;rw[jdp,jcg (show i<qc9.length from a)];exact jdr _
def qup {w:Wl} {j k:Nat} {D:DataW Vl} (h:w.ownsMap prog 9 qcd j 19 D) (d:qow D k 19) {b:List (List UInt8)} (m:b.Perm (Go.strKeys D)):b.mergeSort (λx y=>decide (x<=y))=qc9:=by
 have o:Go.Collected D (λ_=>false) qc9:=⟨oj,λx=>by
  rw[q34];constructor
  .rintro ⟨i,a,rfl⟩;exact⟨(d.has i a).1,rfl⟩
  rintro ⟨q,_⟩;rcases Classical.em (∃i,i<19/\x=qn i)with e|e
  .exact e
  have:=(d.no x (λi a r=>e ⟨i,a,r⟩)).1;rw[q]at this;cases this⟩
 exact qu9 (m.trans (o.perm h qhg underlying9 (λ_=>rfl)).symm)
end Go.Proofs.YtbfkeoagmajcpaaGreatDoor
