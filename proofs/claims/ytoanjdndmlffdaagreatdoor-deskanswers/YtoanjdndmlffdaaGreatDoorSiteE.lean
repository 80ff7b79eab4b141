import Derived.Stop.Asserts
import Derived.Test.YtoanjdndmlffdaaGreatDoorSiteD
import Derived.Lib.AppendIntMem
import Derived.Test.YtoanjdndmlffdaaGreatDoorRows
import Derived.LaidHandle
import Derived.Stop.LaidErr
import Derived.Lib.ItoaLen
set_option maxHeartbeats 8000000
set_option maxRecDepth 100000
namespace Go.Proofs.YtoanjdndmlffdaaGreatDoor
section
open Tryz Go.RowKit Go.Extern.Stop Go.Stop Go.Extern
theorem qs0 (t:Addr) (w:World):(ReflectliteValue.unpack (.iface 225 (.pointer (some t)))).run prog w
 =.ok (.agg #[.pointer (some (AD 10 225)),PP w.heap.size,.int .u64 150]) (w.alloc (.cells #[.pointer (some t)] 225)):=by kernel_rfl
theorem q2n (a:Addr) (w:World):(ReflectliteValue.methodAny (ReflectliteValue.valueError "reflectlite.Value.Type" 0) (λt _ _ _=>ReflectliteType.toType t) #[.agg #[.pointer (some (AD 10 225)),.pointer (some a),.int .u64 150]]).run prog w
 =.ok (.iface 312 (.agg #[.pointer (some (AD 10 225))])) w:=by kernel_rfl
theorem q9s (h:Value) (w:World):(Go.method 477 312 (.agg #[h]) "Kind").run prog w=.ok (309,h) w:=by kernel_rfl
theorem q75 (h:Value) (w:World):(Go.method 477 312 (.agg #[h]) "Elem").run prog w=.ok (323,.agg #[h]) w:=by kernel_rfl
theorem q9h (h:Value) (w:World):(Go.method 477 312 (.agg #[h]) "Implements").run prog w=.ok (324,.agg #[h]) w:=by kernel_rfl
theorem q28 (h:Value) (w:World):(Go.method 477 312 (.agg #[h]) "AssignableTo").run prog w=.ok (321,.agg #[h]) w:=by kernel_rfl
theorem q2s (w:World):((ReflectliteType.abiMethod λt=>(λa:Nat=>Value.int IntKind.u8 (a:Int))<$>Rtype.kind t) #[.pointer (some (AD 10 225))]).run prog w=.ok (.int .u8 22) w:=by kernel_rfl
theorem q80 (w:World):((ReflectliteType.abiMethod λt=>(λa:Nat=>Value.int IntKind.u8 (a:Int))<$>Rtype.kind t) #[.pointer (some (AD 10 26))]).run prog w=.ok (.int .u8 2) w:=by kernel_rfl
theorem q1t (w:World):(ReflectliteType.method ReflectliteType.elem #[.agg #[.pointer (some (AD 10 225))]]).run prog w=.ok (.iface 312 (.agg #[.pointer (some (AD 10 26))])) w:=by kernel_rfl
theorem q96 (w:World):(ReflectliteType.relation "Implements" ReflectliteType.implements_ #[.agg #[.pointer (some (AD 10 26))],.iface 312 (.agg #[.pointer (some (AD 10 37))])]).run prog w=.ok (.bool true) w:=by kernel_rfl
theorem q1s (v:Value) (w:World):(ReflectliteType.typeOf #[.iface 26 v]).run prog w=.ok (.iface 312 (.agg #[.pointer (some (AD 10 26))])) w:=by kernel_rfl
theorem q1f (w:World):(ReflectliteType.relation "AssignableTo" ReflectliteType.assignableTo #[.agg #[.pointer (some (AD 10 26))],.iface 312 (.agg #[.pointer (some (AD 10 26))])]).run prog w=.ok (.bool true) w:=by kernel_rfl
theorem qxu (n:Int) (w:World):(ReflectliteValue.unpack (.iface 26 (U n))).run prog w
 =.ok (.agg #[.pointer (some (AD 10 26)),PP w.heap.size,.int .u64 130]) (w.alloc (.cells #[U n] 26)):=by kernel_rfl
theorem qo6 (a:Addr) (w:World):(ReflectliteValue.parts (.agg #[.pointer (some (AD 10 225)),.pointer (some a),.int .u64 150])).run prog w=.ok (some (225,a,150)) w:=by kernel_rfl
theorem qxp (a:Addr) (w:World):(ReflectliteValue.parts (.agg #[.pointer (some (AD 10 26)),.pointer (some a),.int .u64 386])).run prog w=.ok (some (26,a,386)) w:=by kernel_rfl
theorem q6i (a:Addr) (w:World):(ReflectliteValue.parts (.agg #[.pointer (some (AD 10 26)),.pointer (some a),.int .u64 130])).run prog w=.ok (some (26,a,130)) w:=by kernel_rfl
theorem q7g (w:World):(Rtype.elem? 225).run prog w=.ok (some 26) w:=by kernel_rfl
theorem jb8 (p:Addr) (w:World):(ReflectliteValue.mk 26 p ReflectliteValue.flagAddr).run prog w=.ok (.agg #[.pointer (some (AD 10 26)),.pointer (some p),.int .u64 386]) w:=by kernel_rfl
theorem q6y (w:World):(Rtype.directlyAssignable 26 26).run prog w=.ok true w:=by kernel_rfl
theorem q9u (a p:Addr) (W:World) (b:W.cell? a=some (.pointer (some p))):
 (ReflectliteValue.method (ReflectliteValue.valueError "reflectlite.Value.IsNil" 0) ReflectliteValue.isNil #[.agg #[.pointer (some (AD 10 225)),.pointer (some a),.int .u64 150]]).run prog W=.ok (.bool false) W:=by
 refine Eq.trans (congrArg (λs=>Sem.run prog s W) (show ReflectliteValue.method (ReflectliteValue.valueError "reflectlite.Value.IsNil" 0) ReflectliteValue.isNil #[(.agg #[.pointer (some (AD 10 225)),.pointer (some a),.int .u64 150])]=(ReflectliteValue.parts (.agg #[.pointer (some (AD 10 225)),.pointer (some a),.int .u64 150])>>=_)from rfl)) ?_;simp only[Sem.run_bind,qo6,Result.andThen];simp[ReflectliteValue.isNil,loadVar,isAgg,underlying,underlying225,b,Result.andThen]
theorem q8j (a p:Addr) (W:World) (b:W.cell? a=some (.pointer (some p))):
 (ReflectliteValue.method (ReflectliteValue.valueError "reflectlite.Value.Elem" 0) ReflectliteValue.elem #[.agg #[.pointer (some (AD 10 225)),.pointer (some a),.int .u64 150]]).run prog W
  =.ok (.agg #[.pointer (some (AD 10 26)),.pointer (some p),.int .u64 386]) W:=by
 refine Eq.trans (congrArg (λs=>Sem.run prog s W) (show ReflectliteValue.method (ReflectliteValue.valueError "reflectlite.Value.Elem" 0) ReflectliteValue.elem #[(.agg #[.pointer (some (AD 10 225)),.pointer (some a),.int .u64 150])]=(ReflectliteValue.parts (.agg #[.pointer (some (AD 10 225)),.pointer (some a),.int .u64 150])>>=_)from rfl)) ?_;simp only[Sem.run_bind,qo6,Result.andThen];simp[ReflectliteValue.elem,loadVar,isAgg,underlying,underlying225,b,Result.andThen,q7g,jb8]
theorem jbv (a b:Addr) (n:Int) (c:Value) (W:World) (d:W.cell? b=some (U n)) (e:W.cell? a=some c) (f:W.frozen? a=false):
 (ReflectliteValue.set #[.agg #[.pointer (some (AD 10 26)),.pointer (some a),.int .u64 386],.agg #[.pointer (some (AD 10 26)),.pointer (some b),.int .u64 130]]).run prog W
  =.ok (.tuple #[]) (W.setCell a (U n)):=by
 refine Eq.trans (congrArg (λs=>Sem.run prog s W) (show ReflectliteValue.set #[(.agg #[.pointer (some (AD 10 26)),.pointer (some a),.int .u64 386]),(.agg #[.pointer (some (AD 10 26)),.pointer (some b),.int .u64 130])]=(ReflectliteValue.parts (.agg #[.pointer (some (AD 10 26)),.pointer (some a),.int .u64 386])>>=λ_=>ReflectliteValue.parts (.agg #[.pointer (some (AD 10 26)),.pointer (some b),.int .u64 130])>>=_)from rfl)) ?_;simp only[Sem.run_bind,qxp,q6i,Result.andThen];simp[ReflectliteValue.flagAddr,loadVar,isAgg,underlying,underlying26,d,Result.andThen,q6y,storeVar,Value.cells,storeCells,Addr.add];rw[run_store prog W a _ _ (by rfl)];simp[e,f]
end
section
open Tryz Go.RowKit Go.Extern.Stop Go.Stop Go.Extern
theorem ja2 (n:Int) (t:Addr) (a:Value) (w:World) (b:w.cell? (AD 3 0)=some (.iface 312 (.agg #[.pointer (some (AD 10 37))]))) (c:w.cell? t=some a) (e:w.frozen? t=false):
 Ca 166 #[.iface 26 (U n),.iface 225 (.pointer (some t))] w λev w'=>ev=.returned (.bool true)/\w'=((((w.alloc (.cells #[.pointer (some t)] 225)).alloc (.cells #[.pointer (some (AD 10 225)),PP w.heap.size,.int .u64 150] 270)).alloc (.cells #[.pointer (some (AD 10 225)),PP w.heap.size,.int .u64 150] 270)).alloc (.cells #[U n] 26)).setCell t (U n):=by
 have g:=@run_callFunc_extern prog 222 _ (λargs=>ReflectliteValue.unpack (args.getD 0 (.tuple #[]))) func222 (by kernel_rfl) (by kernel_rfl) (by kernel_rfl) (by kernel_rfl);have h:=@run_callFunc_extern prog 223 _ (ReflectliteValue.methodAny (ReflectliteValue.valueError "reflectlite.Value.Type" 0) (λt _ _ _=>ReflectliteType.toType t)) func223 (by kernel_rfl) (by kernel_rfl) (by kernel_rfl) (by kernel_rfl);have i:=@run_callFunc_extern prog 224 _ (ReflectliteValue.method (ReflectliteValue.valueError "reflectlite.Value.IsNil" 0) ReflectliteValue.isNil) func224 (by kernel_rfl) (by kernel_rfl) (by kernel_rfl) (by kernel_rfl);have j:=@run_callFunc_extern prog 309 _ (ReflectliteType.abiMethod λt=>do pure (.int .u8 (<-Rtype.kind t))) func309 (by kernel_rfl) (by kernel_rfl) (by kernel_rfl) (by kernel_rfl);have k:=@run_callFunc_extern prog 323 _ (ReflectliteType.method ReflectliteType.elem) func323 (by kernel_rfl) (by kernel_rfl) (by kernel_rfl) (by kernel_rfl);have l:=@run_callFunc_extern prog 324 _ (ReflectliteType.relation "Implements" ReflectliteType.implements_) func324 (by kernel_rfl) (by kernel_rfl) (by kernel_rfl) (by kernel_rfl);have m:=@run_callFunc_extern prog 264 _ ReflectliteType.typeOf func264 (by kernel_rfl) (by kernel_rfl) (by kernel_rfl) (by kernel_rfl);have o:=@run_callFunc_extern prog 321 _ (ReflectliteType.relation "AssignableTo" ReflectliteType.assignableTo) func321 (by kernel_rfl) (by kernel_rfl) (by kernel_rfl) (by kernel_rfl);have p:=@run_callFunc_extern prog 265 _ (ReflectliteValue.method (ReflectliteValue.valueError "reflectlite.Value.Elem" 0) ReflectliteValue.elem) func265 (by kernel_rfl) (by kernel_rfl) (by kernel_rfl) (by kernel_rfl);have q:=@run_callFunc_extern prog 266 _ ReflectliteValue.set func266 (by kernel_rfl) (by kernel_rfl) (by kernel_rfl) (by kernel_rfl);have r:=q1s;have s:=q28;have u:=q1f;have v:=qxu;have x:=qs0;have y:=q2n;have z:=q9s;have B:=q75;have C:=q9h
 have D:=q2s;have E:=q80;have F:=q1t;have G:=q96;have H:=q9u (AD w.heap.size 0) t ((w.alloc (.cells #[.pointer (some t)] 225)).alloc (.cells #[.pointer (some (AD 10 225)),PP w.heap.size,.int .u64 150] 270)) (by simp);have f:3<w.heap.size:=jcr _ _ b;have d:=jcr _ _ c
 have I:((w.alloc (.cells #[.pointer (some t)] 225)).alloc (.cells #[.pointer (some (AD 10 225)),PP w.heap.size,.int .u64 150] 270)).cell? (AD 3 0)=some (.iface 312 (.agg #[.pointer (some (AD 10 37))])):=by
  rw[World.cell?_alloc_lt _ _ (AD 3 0) (by simp<;>omega),World.cell?_alloc_lt _ _ (AD 3 0) f];exact b
 have J:=q8j (AD w.heap.size 0) t (((w.alloc (.cells #[.pointer (some t)] 225)).alloc (.cells #[.pointer (some (AD 10 225)),PP w.heap.size,.int .u64 150] 270)).alloc (.cells #[.pointer (some (AD 10 225)),PP w.heap.size,.int .u64 150] 270)) (by rw[World.cell?_alloc_lt _ _ (AD w.heap.size 0) (by simp;omega)];simp)
 have K:=jbv t (AD (w.heap.size+1+1+1) 0) n a ((((w.alloc (.cells #[.pointer (some t)] 225)).alloc (.cells #[.pointer (some (AD 10 225)),PP w.heap.size,.int .u64 150] 270)).alloc (.cells #[.pointer (some (AD 10 225)),PP w.heap.size,.int .u64 150] 270)).alloc (.cells #[U n] 26))
  (by rw[World.cell?_alloc_at _ _ _ _ (by simp)];rfl)
  (by rw[World.cell?_alloc_lt _ _ t (by simp;omega),World.cell?_alloc_lt _ _ t (by simp;omega),World.cell?_alloc_lt _ _ t (by simp;omega),World.cell?_alloc_lt _ _ t d];exact c)
  (by rw[World.frozen?_alloc_old _ _ t (by simp;omega),World.frozen?_alloc_old _ _ t (by simp;omega),World.frozen?_alloc_old _ _ t (by simp;omega),World.frozen?_alloc_old _ _ t (Nat.ne_of_lt d)];exact e)
 go_enter func166,ntmps166
 go_wp2
 refine wp_loop_rounds 1 ?_;rw[rounds_succ]
 go_wp2
 go_ret;exact⟨rfl,rfl⟩
theorem qzi (n:Int) (w:World) (a:w.cell? (AD 3 0)=some (.iface 312 (.agg #[.pointer (some (AD 10 37))]))):
 Ca 119 #[.iface 26 (U n)] w (Rn (U n) w):=by
 have b:=cell_later (boxed (jcc _ w) (.cells #[U 0] 26)) a
 have c:(w.alloc (.cells #[U 0] 26)).cell? (AD w.heap.size 0)=some (U 0):=by simp
 have d:(w.alloc (.cells #[U 0] 26)).frozen? (AD w.heap.size 0)=false:=by simp
 go_enter func119,ntmps119
 go_wp2_with fail
 refine(ja2 _ _ (U 0) _ b c d).mono ?_;rintro e f ⟨rfl,rfl⟩
 go_wp2
 go_ret;refine⟨rfl,?_⟩
 repeat (first|(with_reducible exact jcc _ _)|(with_reducible refine boxed ?_ _)|(with_reducible refine jdz ?_ (jcd _) _))
end
section
open Tryz Go.RowKit
structure Gl (w:World):Prop where
 sz:10<=w.heap.size
 et:w.cell? (AD 3 0)=some (.iface 312 (.agg #[.pointer (some (AD 10 37))]))
 tab:Lib.TabIs prog w "internal/strconv.uint64pow10" .u64 Lib.pow10Tab
 es:∃t p,w.cell? (AD 6 0)=some (.iface t p)
 er:∃t p,w.cell? (AD 7 0)=some (.iface t p)
 ml:∃m,w.cell? (AD 1 0)=some (U m)
theorem qr1:prog.globalNamed "internal/strconv.uint64pow10"=some 2:=by kernel_rfl
variable {w w':World}
theorem Gl.kept (g:Gl w) (d:∀k,k<10->w'.heap[k]?=w.heap[k]?) (e:w.heap.size<=w'.heap.size):Gl w':=by
 have c:∀{k:Nat} {v:Value},k<10->w.cell? (AD k 0)=some v->w'.cell? (AD k 0)=some v:=λf h=>by rw[jch (w:=w) (d _ f)];exact h
 obtain⟨i,j,b,⟨n,o,p⟩,⟨q,r,s⟩,m,t⟩:=g;refine⟨jcn i e,c (by decide) j,?_,⟨n,o,c (by decide) p⟩,⟨q,r,c (by decide) s⟩,m,c (by decide) t⟩;unfold Lib.TabIs World.var? at b ⊢;rw[qr1]at b ⊢;simp only[Option.bind_some]at b ⊢;rw[d _ (by decide)];exact b
theorem Gl.later (g:Gl w) (b:Bw w w'):Gl w':=g.kept (λk c=>b.block k (jci c g.sz)) b.size
def qc7 (n:Int):Ending:=.panicked [{v:=.iface 26 (U n),recovered:=false}]
def jba (o:Option Int) (e:Ending):Prop:=match o with
 |some v=>e=.returned (U v)
 |none=>e=qc7 3
theorem qsn (v:Int) (h:wfI v) (w:World) (g:Gl w):Ca 18 #[U v] w λe w'=>e=.returned (.string (bya (Lib.itoa v)))/\Bw w w':=
 (jej v h.1 h.2 w g.tab).mono λ_ _ ⟨b,k,os,c⟩=>⟨b,by rw[c];exact Lib.below_grow _ w (jcd _) k os⟩
theorem qq9 (v:Int) (h:wfI v) (w:World) (g:Gl w):Ca 76 #[U v,U 10] w λe w'=>e=.returned (.string (bya (Lib.itoa v)))/\Bw w w':=
 (jd5 v h.1 h.2 w g.tab).mono λ_ _ ⟨b,k,os,c⟩=>⟨b,by rw[c];exact Lib.below_grow _ w (jcd _) k os⟩
theorem qvu (s:ByteArray) (d:s.size<=1000000) (v:Int) (h:Lib.parseIntB 64 s.data.toList=.ok v) (w:World):Ca 75 #[.string s,U 10,U 64] w (Rn (.tuple #[U v,.nilIface]) w):=
 (jd2 s (by omega) v h w).mono λ_ _ ⟨b,c⟩=>⟨b,by
  rcases c with rfl|⟨t,rfl⟩
  ·exact jcc _ _
  exact Lib.bytesWorld_below _ _ _⟩
theorem qw9 (s:ByteArray) (u:s.size<=1000000) (w:World) (g:Gl w):
 Ca 201 #[.string s] w λe w'=>jba (qbw s) e/\Bw w w':=by
 by_cases b:∃v,Lib.parseIntB 64 s.data.toList=.ok v
 ·obtain⟨v,b⟩:=b
  have c:wfI v:=by have:=Lib.parseIntB_bounds b;simp at this;exact⟨by omega,by omega⟩
  have j:=qvu s u v b w
  have m:Hid (qbw s=if bya (Lib.itoa v)=s then some v else none):=by show qbw s=_;unfold qbw;rw[b]
  have d:=λw' x=>qq9 v c w' (g.later (w':=w') x);have o:=q93 (bya (Lib.itoa v)) s
  generalize bya (Lib.itoa v)=t at m d o
  go_enter func201,ntmps201
  go_wp2_with fail
  refine j.mono ?_;rintro e q ⟨rfl,f⟩;replace d:=d q f;by_cases i:t=s
  ·have y:(t.toList==s.toList)=true:=by rw[o];simp[i]
   have h:Hid (qbw s=some v):=by show qbw s=_;rw[m.out,if_pos i]
   go_wp2_with fail
   refine d.mono ?_;rintro e w2 ⟨rfl,p⟩
   go_wp2
   go_ret;exact⟨by rw[h.out];rfl,qa f p⟩
  have y:(t.toList==s.toList)=false:=by rw[o];simp[i]
  have h:Hid (qbw s=none):=by show qbw s=_;rw[m.out,if_neg i]
  go_wp2_with fail
  refine d.mono ?_;rintro e w2 ⟨rfl,p⟩
  go_wp2
  exact⟨rfl,by rw[h.out];rfl,qa f p⟩
 have r:∀v,Lib.parseIntB 64 s.data.toList≠.ok v:=λv c=>b ⟨v,c⟩;have j:=jeh s (by omega) r w g.es g.er
 have h:Hid (qbw s=none):=by
  show qbw s=none;unfold qbw;split
  ·rename_i v c;exact absurd c (r v)
  rfl
 go_enter func201,ntmps201
 go_wp2_with fail
 refine j.mono ?_;rintro e q ⟨n,N,rfl,f⟩
 go_wp2
 exact⟨rfl,by rw[h.out];rfl,f⟩
structure qfj (w:World) (a:Option Addr) (cap:Nat) (l:List ByteArray):Prop where
 cap:l.length<=cap
 cell:∀(j:Nat) x,l[j]?=some x->∃b o,a=some (AD b o)/\b<w.heap.size/\w.cell? (AD b (o+j))=some (.string x)
variable {a:Option Addr} {l:List ByteArray}
theorem qfj.later {cap:Nat} (h:qfj w a cap l) (c:Bw w w'):qfj w' a cap l:=
 ⟨h.cap,λj x e=>by obtain⟨b,o,f,d,g⟩:=h.cell j x e;exact⟨b,o,f,jci d c.size,(c.cell (p:=AD b (o+j)) d).trans g⟩⟩
theorem q0l:(prog.info? 3).map (λi=>(i.zero,i.size,i.bytes))=some (some (U 0),1,8):=by kernel_rfl
theorem q20 {n:Nat} (b:n<=6) (w:World):(Instr.makeSlice 69 (U n) (U n)).run prog w=.ok (.slice (PT w.heap.size) n n) (w.alloc (.cells (madeCells #[U 0] n) 3)):=
 run_make_row' _ 3 (U 0) 8 underlying69 q0l rfl .i64 .i64 n (by omega) (by omega) w
def qec (l:List Int):List Value:=l.map (λx=>Value.int .i64 x)
def qn7 (w:World) (o:Option (List Int)) (e:Ending) (w':World):Prop:=match o with
 |some l=>∃b,e=.returned (.slice (PT b) l.length l.length)/\qd w' b (qec l)/\Bw w w'
 |none=>e=qc7 3/\Bw w w'
variable {k:Nat} {vs:List Int}
theorem qw0 (b:k<l.length) (h:qb0 (l.take k)=some vs):qb0 (l.take (k+1))=(qbw l[k]).map (λv=>vs++[v]):=by
 induction l generalizing k vs with
 |nil=>simp at b
 |cons x l ih=>
  cases k with
  |zero=>
   simp[qb0]at h;subst h;simp[qb0]
   cases qbw x<;>rfl
  |succ k=>
   simp only[List.take_succ_cons,qb0]at h ⊢;cases hx:qbw x with
   |none=>rw[hx]at h;cases h
   |some v=>
    rw[hx]at h;simp only at h ⊢;cases hl:qb0 (l.take k)with
    |none=>rw[hl]at h;cases h
    |some r=>
     rw[hl]at h;injection h with h;subst h;rw[ih (by simpa using b) hl];simp only[List.getElem_cons_succ]
     cases qbw (l[k]'(by simpa using b))<;>rfl
theorem qw8 (h:qb0 (l.take k)=none):qb0 l=none:=by
 induction l generalizing k with
 |nil=>simpa using h
 |cons x l ih=>
  cases k with
  |zero=>simp[qb0]at h
  |succ k=>
   simp only[List.take_succ_cons,qb0]at h ⊢;cases hx:qbw x with
   |none=>rfl
   |some v=>
    rw[hx]at h;simp only at h ⊢;cases hl:qb0 (l.take k)with
    |none=>rw[ih hl]
    |some r=>rw[hl]at h;cases h
theorem qbb:∀{l:List ByteArray},qb0 l=some vs->vs.length=l.length
 |[],vs,h=>by simp[qb0]at h;subst h;rfl
 |x::l,vs,h=>by
  simp only[qb0]at h;cases hx:qbw x with
  |none=>rw[hx]at h;cases h
  |some v=>
   rw[hx]at h;simp only at h;cases hl:qb0 l with
   |none=>rw[hl]at h;cases h
   |some r=>
    rw[hl]at h;injection h with h;subst h;simp[qbb hl]
theorem qiw {cap:Nat} {m:Nat} (B:m<=6) (H:∀x∈l,x.size<=1000000) (w:World) (g:Gl w) (h:qfj w a cap l):
 Ca 140 #[.slice a l.length cap,U m] w (qn7 w (ju m l)):=by
 by_cases f:l.length=m
 ·subst f;have Y:=q20 B w
  have j:Hid (ju l.length l=qb0 l):=by show ju l.length l=_;unfold ju;rw[if_pos rfl]
  have Z:=h.cap
  have I:qd (w.alloc (.cells (madeCells #[U 0] l.length) 3)) w.heap.size (List.replicate l.length (U 0)):=by
   have:=qd.new (w:=w) (T:=3) (madeCells #[Value.int .i64 0] l.length).toList rfl
   rwa [Array.toArray_toList,toList_madeCells_one]at this
  have J:=hd3 h g H;have K:=boxed (jcc _ w) (.cells (madeCells #[U 0] l.length) 3);have L:=hd1 B;go_enter func140,ntmps140
  go_wp2
  go_loopw [17] (λiv wr=>∃(k:Nat) (z:Int) (vs:List Int),k<=l.length/\z=k/\iv=U z/\Hid (qb0 (l.take k)=some vs/\qd wr w.heap.size (qec vs++List.replicate (l.length-k) (U 0))/\Bw w wr)) (λiv _=>l.length-(intOf iv).toNat)
  case atStart=>exact⟨0,0,[],jcw _,rfl,rfl,rfl,I,K⟩
  obtain⟨k,z,vs,hk,M,rfl,c⟩:=hrel;have N:=hd1 M
  have n:vs.length=k:=by rw[qbb c.out.1,jc5];omega
  by_cases i:k<l.length
  ·have O:z<(l.length:Int):=by omega
   have g2:0<=z:=by omega
   have g3:z.toNat=k:=by omega
   have g4:z<6:=by have:=L.out;omega
   obtain⟨x,r⟩:∃x,l[k]?=some x:=⟨_,jcg i⟩;obtain⟨P,Q,R⟩:=J.out;obtain⟨b,o,rfl,hb,hc⟩:=(P.later c.out.2.2).cell k x r
   have C:Hid (qb0 (l.take (k+1))=(qbw x).map (λv=>vs++[v])):=by
        have:=qw0 i c.out.1;rw[(jck.1 r).2]at this;exact this
   have S:=qw9 x (R x (jcq r)) wr (Q.later c.out.2.2)
   go_wp2_with fail
   refine S.mono ?_;rintro e w2 ⟨q,D⟩;have E:=qa c.out.2.2 D;have s:=c.out.2.1.later D;cases hn:qbw x with
   |none=>
    rw[hn]at q;have t:e=.panicked [{v:=.iface 26 (U 3),recovered:=false}]:=q;subst t;have d:=C.out;rw[hn]at d;exact⟨rfl,by unfold qn7;rw[j.out,qw8 d];exact⟨rfl,E⟩⟩
   |some v=>
    rw[hn]at q;have t:e=.returned (U v):=q;subst t
    have f:(qec vs++List.replicate (l.length-k) (Value.int .i64 0)).length=l.length:=by simp[qec];omega
    have c0:=s.cell k _ (by
        rw[jc0 (by simp[qec,n]),show k-(qec vs).length=0 by simp[qec,n],show l.length-k=(l.length-(k+1))+1 by omega]
        rfl)
    have f0:=s.free k (by rw[f];exact i)
    have F:Hid (qd (w2.setCell (AD w.heap.size k) (U v)) w.heap.size (qec (vs++[v])++List.replicate (l.length-(k+1)) (U 0))/\Bw w (w2.setCell (AD w.heap.size k) (U v))):=by
        refine⟨?_,E.setCell (p:=AD w.heap.size k) (jcd _) _⟩;have:=s.set k (U v) (by rw[f];exact i);rw[List.set_append_right _ _ (by simp[qec];omega)]at this
        have V:l.length-k=(l.length-(k+1))+1:=by omega
        rw[V,List.replicate_succ]at this;simpa[qec,n]using this
    have W:Hid (qb0 (l.take (k+1))=some (vs++[v])):=by have d:=C.out;rw[hn]at d;exact d
    go_wp2
    go_roundw
    case rel=>exact⟨k+1,z+1,vs++[v],i,by have:=N.out;omega,by go_num,W.out,F.out.1,F.out.2⟩
    simp[intOf];omega
  have O:¬z<(l.length:Int):=by omega
  have u:k=l.length:=by omega
  have y:Hid (ju l.length l=some vs/\qd wr w.heap.size (qec vs)/\Bw w wr):=by
   have G:=c.out.1;have d:=c.out.2.1;rw[u,jc9]at G;rw[u,Nat.sub_self,List.replicate_zero,jdx]at d;exact⟨j.out.trans G,d,c.out.2.2⟩
  have X:=hd1 (n.trans u)
  go_wp2
  go_ret;unfold qn7;rw[y.out.1];exact⟨w.heap.size,by simp[X.out],y.out.2.1,y.out.2.2⟩
 have j:Hid (ju m l=none):=by show ju m l=none;unfold ju;rw[if_neg f]
 have hne:¬(l.length:Int)=(m:Int):=by omega
 go_enter func140,ntmps140
 go_wp2
 exact⟨rfl,by unfold qn7;rw[j.out];exact⟨rfl,jcc _ _⟩⟩
end
section
open Tryz
theorem q47:prog.globalNamed "errors.errorType"=some 3:=by kernel_rfl
theorem jbn:(prog.cutTypes.find? (·.1=="internal/reflectlite.rtype")).map (·.2)=some 312:=by kernel_rfl
theorem q5p:((List.range 377).filter λt=>prog.rowNamed t [101,114,114,111,114])=[37]:=by kernel_rfl
theorem q1i:prog.types.size=377:=by kernel_rfl
variable {W:World}
theorem jbe (h:handlesMet prog [("errors.errorType",Rows.laid_errors_errorType)] W):W.cell? (AD 3 0)=some (.iface 312 (.agg #[.pointer (some (AD 10 37))])):=by
 obtain⟨k,u,c,d,e,f,g,a⟩:=h _ (jcj.2 rfl);have i:=(jcu d).symm;subst i;obtain rfl:=jcu (jbn.symm.trans e);have b:c∈(List.range 377).filter λt=>prog.rowNamed t [101,114,114,111,114]:=jdq.2 ⟨List.mem_range.2 (by rw[<-q1i];exact f),g⟩;rw[q5p]at b;obtain rfl:=jcj.1 b
 have j:typeHandle prog 37=.pointer (some (AD 10 37)):=by kernel_rfl
 rw[j]at a;simpa using World.var?_cell q47 a 0
theorem qpr {P:Program} {n c:String} {d:DataW Unit} {r:List (String×DataW Unit)} {g:Nat} {a:TypeId} {f:Array (String×TypeId)} (h:laidMet P ((n,.iface c d)::r) W) (i:P.globalNamed n=some g) (j:(P.globals[g]?).map (·.type)=some a) (hi:P.underlying a=some (.interface f)):∃t p,W.cell? (AD g 0)=some (.iface t p):=by
 obtain⟨ps,⟨o,q,s,w,p0,x,b,k,l,m,_,y⟩,_⟩:=h;obtain rfl:=jcu (i.symm.trans b);obtain rfl:=jcu (j.symm.trans k);obtain⟨_,u,v,e,_⟩:=iface_of_trod hi m;have:=World.var?_cell b l 0;rw[Array.eq_one_of_toList e]at this;exact⟨u,v,by simpa using this⟩
theorem jbw (c:∃r,laidMet prog (("internal/strconv.uint64pow10",Rows.laid_internal_strconv_uint64pow10)::r) W) (a:∃r,laidMet prog (("strconv.ErrRange",Rows.laid_strconv_ErrRange)::("strconv.ErrSyntax",Rows.laid_strconv_ErrSyntax)::r) W) (e:handlesMet prog [("errors.errorType",Rows.laid_errors_errorType)] W) (d:W.ShapedOpen prog):Gl W:=by
 obtain⟨f,c⟩:=c;obtain⟨g,a⟩:=a
 have b:∃o,W.heap[9]?=some o:=by
  obtain⟨i,h,_⟩:=d.1 9 (Array.replicate 64 (.int .u8 0)) 330 (of_decide_eq_true (by kernel_rfl)) (by kernel_rfl);exact⟨_,h⟩
 obtain⟨o,b⟩:=b;have b:=(jcs.1 b).1;exact⟨by omega,jbe e,Lib.tabIs_of_head qr1 (by kernel_rfl) underlying252 underlying192 (by kernel_rfl) (by kernel_rfl) (zs:=Lib.pow10Tab) c,qpr a.tail (by kernel_rfl) (by kernel_rfl) underlying37,qpr a (by kernel_rfl) (by kernel_rfl) underlying37,cell_of_shapedOpen_int (t:=3) (zero:=#[U 0]) d (of_decide_eq_true (by kernel_rfl)) (by kernel_rfl) rfl (by kernel_rfl) (by kernel_rfl) underlying3⟩
end
section
open Tryz Go.RowKit
theorem qgf (a b c d:Int) (w:World):
 Ca 182 #[.agg #[U a,U b],.agg #[U c,U d]] w (Rn (U (qdr a b c d)) w):=by
 have i:=qvp;rcases qcw a b c d with ⟨h,e⟩|⟨⟨rfl,rfl⟩,e⟩|⟨h,e⟩
 have f:qhi a b c d=false:=by simp[qhi];omega
 rw[e];rcases h with h|⟨rfl,h⟩
 rotate_left
 rotate_left
 have f:=qxz a b;rw[e]
 rotate_left
 have f:qhi a b c d=false:=by simp[qhi];omega
 rw[e];rcases h with h|⟨rfl,h⟩
 have g:¬a<c:=by omega
 have j:(a==c)=false:=by simp;omega
 rotate_left
 have g:¬b<d:=by omega
 all_goals
  go_enter func182,ntmps182
  go_wp2
  go_ret;exact⟨rfl,boxed (boxed (jcc _ _) _) _⟩
theorem qqb (lw lc now:Int) (w:World) (h:(qi lw&&qi lc)=false):
 Ca 179 #[.agg #[U lw,U lc],U now] w (Rn (.tuple #[.agg #[U 0,U 0],U 2]) w):=by
 go_enter func179,ntmps179
 go_wp2_with fail
 refine(qcz _ _ _).mono ?_;rintro e b ⟨rfl,a⟩;obtain⟨c,d⟩:=qdb a
 have f:w.heap.size+1<b.heap.size:=by have:=a.size;simp at this;omega
 go_wp2_with (go_at_call 28;refine(qbk _ _).mono ?_;rintro e w' ⟨rfl,rfl⟩)
 refine bodyPost_ret (v:=.tuple #[.agg #[U 0,U 0],U 2]) (by simp[results,results179,go_sem,c]) rfl ⟨rfl,?_⟩
 repeat (first|(with_reducible exact qhb a)|(with_reducible refine jdz ?_ (by simp) _))
theorem qof (lw lc now:Int) (w:World) (h:(qi lw&&qi lc)=true) (d:qi now=false):
 Ca 179 #[.agg #[U lw,U lc],U now] w (Rn (.tuple #[.agg #[U 0,U 0],U 2]) w):=by
 go_enter func179,ntmps179
 go_wp2_with fail
 refine(qcz _ _ _).mono ?_;rintro e b ⟨rfl,a⟩;obtain⟨c,f⟩:=qdb a
 have g:w.heap.size+1<b.heap.size:=by have:=a.size;simp at this;omega
 go_wp2_with (go_at_call 28;refine(qbk _ _).mono ?_;rintro e w' ⟨rfl,rfl⟩)
 refine bodyPost_ret (v:=.tuple #[.agg #[U 0,U 0],U 2]) (by simp[results,results179,go_sem,c]) rfl ⟨rfl,?_⟩
 repeat (first|(with_reducible exact qhb a)|(with_reducible refine jdz ?_ (by simp) _))
theorem qsu (lw lc now:Int) (w:World) (h:(qi lw&&qi lc)=true) (d:qi now=true) (f:lw<now):
 Ca 179 #[.agg #[U lw,U lc],U now] w (Rn (.tuple #[.agg #[U now,U 0],U 0]) w):=by
 go_enter func179,ntmps179
 go_wp2_with fail
 refine(qcz _ _ _).mono ?_;rintro e b ⟨rfl,a⟩;obtain⟨c,g⟩:=qdb a
 have i:w.heap.size+1<b.heap.size:=by have:=a.size;simp at this;omega
 go_wp2_with (go_at_call 28;refine(qbk _ _).mono ?_;rintro e w' ⟨rfl,rfl⟩)
 refine bodyPost_ret (v:=.tuple #[.agg #[U now,U 0],U 0]) (by simp[results,results179,go_sem,c]) rfl ⟨rfl,?_⟩
 repeat (first|(with_reducible exact qhb a)|(with_reducible refine jdz ?_ (by simp) _))
theorem qse (lw lc now:Int) (w:World) (h:(qi lw&&qi lc)=true) (f:qi now=true) (g:¬lw<now) (i:0<=lc) (j:lc<=1099511627776) (k:1099511627776<lc+1):
 Ca 179 #[.agg #[U lw,U lc],U now] w (Rn (.tuple #[.agg #[U 0,U 0],U 12]) w):=by
 go_enter func179,ntmps179
 go_wp2_with fail
 refine(qcz _ _ _).mono ?_;rintro e b ⟨rfl,a⟩;obtain⟨⟨l,m,n,f1⟩,⟨c,d,o,p⟩⟩:=jag a
 have q:w.heap.size+1<b.heap.size:=by have:=a.size;simp at this;omega
 go_wp2_with (go_at_call 28;refine(qbk _ _).mono ?_;rintro e w' ⟨rfl,rfl⟩)
 refine bodyPost_ret (v:=.tuple #[.agg #[U 0,U 0],U 12]) (by simp[results,results179,go_sem,c,d]) rfl ⟨rfl,?_⟩
 repeat (first|(with_reducible exact qhb a)|(with_reducible refine jdz ?_ (by simp) _))
theorem qqp (lw lc now:Int) (w:World) (h:(qi lw&&qi lc)=true) (f:qi now=true) (g:¬lw<now) (i:0<=lc) (j:lc<=1099511627776) (k:¬1099511627776<lc+1):
 Ca 179 #[.agg #[U lw,U lc],U now] w (Rn (.tuple #[.agg #[U lw,U (lc+1)],U 0]) w):=by
 go_enter func179,ntmps179
 go_wp2_with fail
 refine(qcz _ _ _).mono ?_;rintro e b ⟨rfl,a⟩;obtain⟨⟨l,m,n,f1⟩,⟨c,d,o,p⟩⟩:=jag a
 have q:w.heap.size+1<b.heap.size:=by have:=a.size;simp at this;omega
 go_wp2_with (go_at_call 28;refine(qbk _ _).mono ?_;rintro e w' ⟨rfl,rfl⟩)
 refine bodyPost_ret (v:=.tuple #[.agg #[U lw,U (lc+1)],U 0]) (by simp[results,results179,go_sem,c,d]) rfl ⟨rfl,?_⟩
 repeat (first|(with_reducible exact qhb a)|(with_reducible refine jdz ?_ (by simp) _))
end
section
open Go.RowKit
theorem ql7 {a b:Ver} {v:Bool} (h:qw a b=v) (w:World):
 Ca 183 #[.agg #[U a.wall,U a.count,U a.site,U a.seq,.string a.data,.bool a.gone],.agg #[U b.wall,U b.count,U b.site,U b.seq,.string b.data,.bool b.gone]] w (Rn (.bool v) w):=by
 obtain⟨d,f,k,m,o,p⟩:=a;obtain⟨g,i,bs,q,r,s⟩:=b;have t:=(qd.new (w:=w) (T:=130) [U d,U f,U k,U m,.string o,.bool p] rfl).boxed (.cells #[U g,U i,U bs,U q,.string r,.bool s] 130);have u:=qd.new (w:=w.alloc (.cells #[U d,U f,U k,U m,.string o,.bool p] 130)) (T:=130) (n:=w.heap.size+1) [U g,U i,U bs,U q,.string r,.bool s] (by simp);have x:=boxed (boxed (jcc _ w) (.cells #[U d,U f,U k,U m,.string o,.bool p] 130)) (.cells #[U g,U i,U bs,U q,.string r,.bool s] 130);simp only[qw]at h;obtain⟨c,y⟩:∃c,qdr d f g i=c:=⟨_,rfl⟩;rw[y]at h;have z:=hd1 y;by_cases l:c=0
 ·rw[if_pos l]at h;subst l;have H:Hid (decide (k<bs)=v):=h;go_enter Tryz.func183,Tryz.ntmps183
  go_wp2_with fail
  refine(qgf d f g i _).mono ?_;rintro e B ⟨rfl,j⟩;rw[z.out];replace t:=t.later j;replace u:=u.later j;have C:=t.cell 2 _ rfl;have D:=u.cell 2 _ rfl
  go_wp2_with fail
  go_ret;exact⟨by rw[<-H.out];rfl,qa x j⟩
 rw[if_neg l]at h;have E:=beq_eq_false_iff_ne.2 l;have H:=hd1 h;go_enter Tryz.func183,Tryz.ntmps183
 go_wp2_with fail
 refine(qgf d f g i _).mono ?_;rintro e B ⟨rfl,j⟩;rw[z.out]
 go_wp2_with fail
 go_ret;exact⟨by rw[<-H.out];rfl,qa x j⟩
theorem qte {tmps:Array Value} {w:World} {b:Nat} {v:Ver} {sv:Bool} (h:qd w b (qh v)) (a:tmps[6]?=some (PP b)) (c:tmps[7]?=some (.bool sv)):
 (results Tryz.f130 tmps).run Tryz.prog w=.ok (.tuple #[.agg (qh v).toArray,.bool sv]) w:=by
 obtain⟨d,e,f,g,i,j⟩:=h.c6;simp[results,Tryz.results130,go_sem,a,c,d,e,f,g,i,j,qh]
end
section
open Go.RowKit
theorem qf2 {tmps:Array Value} {w:World} {b:Nat} {v:Ver} {ev:Int} (h:qd w b (qh v)) (a:tmps[6]?=some (PP b)) (c:tmps[7]?=some (U ev)):
 (results Tryz.f91 tmps).run Tryz.prog w=.ok (.tuple #[.agg (qh v).toArray,U ev]) w:=by
 obtain⟨d,e,f,g,i,j⟩:=h.c6;simp[results,Tryz.results91,go_sem,a,c,d,e,f,g,i,j,qh]
end
section
open Go.RowKit
variable {sb so:Nat} {a:Option Addr} {l:List Hd}
theorem qri {cap:Nat} (key a0 a1 a2 a3:Int) (w:World) (hS:w.cell? (AD sb so)=some (.slice a l.length cap)) (hC:q3s w a cap l) (hok:∀h∈l,qau h.v=true) (hl:l.length<=1000000):
 Ca 130 #[.pointer (some (AD sb so)),U key,.agg #[U a0,U a1,U a2,U a3]] w λe w'=>
  e=.returned (.tuple #[.agg (qa6 (zn key a0 a1 a2 a3 l)).toArray,.bool (qga (zn key a0 a1 a2 a3 l))])/\Bw w w':=by
 have hne:=qb.one;have HOK:=hd1 hok;clear hok;have q:=((qo.new w 77 a0 a1 a2 a3).boxed (.cells YA 130)).boxed (.cells YA 130);have d:=(qd.new (w:=w.alloc (.cells #[U a0,U a1,U a2,U a3] 77)) (T:=130) (n:=w.heap.size+1) YL (by simp)).boxed (.cells YA 130);have c:=qd.new (w:=(w.alloc (.cells #[U a0,U a1,U a2,U a3] 77)).alloc (.cells YA 130)) (T:=130) (n:=w.heap.size+1+1) YL (by simp);have g:=boxed (boxed (boxed (jcc _ w) (.cells #[U a0,U a1,U a2,U a3] 77)) (.cells YA 130)) (.cells YA 130);have s0:=cell_later g hS;clear hS;go_enter Tryz.func130,Tryz.ntmps130
 go_wp2_with fail
 obtain⟨W,hWW⟩:∃W,(((w.alloc (.cells #[U a0,U a1,U a2,U a3] 77)).alloc (.cells YA 130)).alloc (.cells YA 130))=W:=⟨_,rfl⟩;have Y:qd (((w.alloc (.cells #[U a0,U a1,U a2,U a3] 77)).alloc (.cells YA 130)).alloc (.cells YA 130)) (w.heap.size+1+1) (qa6 (zn key a0 a1 a2 a3 (l.take 0))):=c;rw[hWW]at q d Y g ⊢;clear hWW c s0
 go_loopw [9,17] (λsv iv wr=>∃(k:Nat) (z:Int),k<=l.length/\z=k/\iv=U z/\sv=.bool (qga (zn key a0 a1 a2 a3 (l.take k)))/\qd wr (w.heap.size+1+1) (qa6 (zn key a0 a1 a2 a3 (l.take k)))/\qd wr (w.heap.size+1) (qh jq)/\qo wr w.heap.size a0 a1 a2 a3/\Bw w wr) (λ_ i _=>l.length-(intOf i).toNat)
 case atStart=>exact⟨0,0,by omega,rfl,rfl,rfl,Y,d,q,g⟩
 clear Y d q g;obtain⟨k,z,hk,hz,rfl,rfl,c,d,q,g⟩:=hrel;by_cases D:k<l.length
 ·have h1:z<(l.length:Int):=by omega
  have h2:z.toNat=k:=by omega
  have h3:0<=z:=by omega
  have P:=hd1 hz;clear hz
  obtain⟨b,I,rfl,hcc⟩:∃b I,a=some (AD b I)/\∀i r u,i<l.length->(hdL (qbd l i))[r]?=some u->w.cell? (AD b (I+(i*7+r)))=some u:=by
   rcases hC.held with Z|Z
   ·rw[Z]at D;simp at D
   exact Z
  have L:=hd1 hcc;clear hcc;obtain⟨E,K⟩:∃E,zn key a0 a1 a2 a3 (l.take k)=E:=⟨_,rfl⟩;rw[K]at c ⊢;have M:=hd1 K;clear K;obtain⟨⟨F,⟨s,t,m,o,y,B⟩⟩,J⟩:∃x,qbd l k=x:=⟨_,rfl⟩;have N:=hd1 J;have x0:wr.cell? (AD b (I+k*7))=some (U F):=cell_later g (L.out k 0 _ D (by rw[J];rfl));have x1:wr.cell? (AD b (I+k*7+1))=some (U s):=cell_later g (L.out k 1 _ D (by rw[J];rfl));have x2:wr.cell? (AD b (I+k*7+2))=some (U t):=cell_later g (L.out k 2 _ D (by rw[J];rfl));have x3:wr.cell? (AD b (I+k*7+3))=some (U m):=cell_later g (L.out k 3 _ D (by rw[J];rfl));have x4:wr.cell? (AD b (I+k*7+4))=some (U o):=cell_later g (L.out k 4 _ D (by rw[J];rfl));have x5:wr.cell? (AD b (I+k*7+5))=some (.string y):=cell_later g (L.out k 5 _ D (by rw[J];rfl));have x6:wr.cell? (AD b (I+k*7+6))=some (.bool B):=cell_later g (L.out k 6 _ D (by rw[J];rfl));clear J;have aa:=qk5 (HOK.out (qbd l k) (by simp only[qbd,List.getD,jcg D,Option.getD_some];exact jdr D));rw[N.out]at aa;simp only at aa;obtain⟨t0,t1⟩:=aa
  have t2:m<4:=by omega
  have hat:=qb.cell (cell_later (boxed (jcc _ wr) (.cells #[U F,U s,U t,U m,U o,.string y,.bool B] 185)) (qk9 q t0 t1));replace c:=c.boxed (.cells #[U F,U s,U t,U m,U o,.string y,.bool B] 185);replace d:=d.boxed (.cells #[U F,U s,U t,U m,U o,.string y,.bool B] 185);replace q:=q.boxed (.cells #[U F,U s,U t,U m,U o,.string y,.bool B] 185);replace g:=boxed g (.cells #[U F,U s,U t,U m,U o,.string y,.bool B] 185);have H:=qd.new (w:=wr) (T:=185) [U F,U s,U t,U m,U o,.string y,.bool B] rfl;have w0:=qb.cell (H.cell 0 _ rfl);have w1:=qb.cell (H.cell 1 _ rfl);have w2:=qb.cell (H.cell 2 _ rfl);have w3:=qb.cell (H.cell 3 _ rfl);have w4:=qb.cell (H.cell 4 _ rfl);have Q:=qb.cell (H.cell 5 _ rfl);have w6:=qb.cell (H.cell 6 _ rfl);by_cases O:F=key
  ·have ek:(F==key)=true:=by simp[O]
   have V:=hd1 O;clear O;cases hh:qdp a0 a1 a2 a3 ⟨s,t,m,o,y,B⟩
   ·have dh:decide (o<=qp m a0 a1 a2 a3)=false:=hh;have X:=hd1 hh;clear hh
    go_wp2_with fail
    refine wrl ?_
    repeat (go_big_quiet_step (fail))
    refine wpQuiet_nil ?_;rintro Q ⟨⟨_,f⟩,rfl⟩;replace c:=c.later f;replace d:=d.later f;replace q:=q.later f;replace g:=qa g f;have C:=λj v (h:(hdL ⟨F,⟨s,t,m,o,y,B⟩⟩)[j]?=some v)=>cell_later f (H.cell j v h)
    have G:Hid (zn key a0 a1 a2 a3 (l.take (k+1))=E):=by show zn key a0 a1 a2 a3 (l.take (k+1))=E;rw[qgk D,M.out,N.out];exact qe7 (λx=>by have:=x.2.1;rw[X.out]at this;cases this)
    clear f C
    go_wp2_with fail
    go_roundw
    case rel=>exact⟨k+1,z+1,by omega,by have:=P.out;omega,by go_num,by rw[G.out],by rw[G.out];exact c,d,q,g⟩
    simp[intOf];omega
   have dh:decide (o<=qp m a0 a1 a2 a3)=true:=hh;have X:=hd1 hh;clear hh;cases E with
   |none=>
    have sn:qga none=false:=rfl
    go_wp2_with fail
    refine wrl ?_
    repeat (go_big_quiet_step (fail))
    refine wpQuiet_nil ?_;rintro Q ⟨⟨_,f⟩,rfl⟩;replace c:=c.later f;replace d:=d.later f;replace q:=q.later f;replace g:=qa g f;have C:=λj v (h:(hdL ⟨F,⟨s,t,m,o,y,B⟩⟩)[j]?=some v)=>cell_later f (H.cell j v h)
    have G:Hid (zn key a0 a1 a2 a3 (l.take (k+1))=some ⟨s,t,m,o,y,B⟩):=by show zn key a0 a1 a2 a3 (l.take (k+1))=_;rw[qgk D,M.out,N.out];exact qgj ⟨V.out,X.out,rfl⟩
    have y1:=C 1 _ rfl;have y2:=C 2 _ rfl;have y3:=C 3 _ rfl;have y4:=C 4 _ rfl;have y5:=C 5 _ rfl;have y6:=C 6 _ rfl;have b0:=c.cell 0 _ rfl;have p0:=c.free 0 (by simp[qa6,qh]);have b1:=c.cell 1 _ rfl;have p1:=c.free 1 (by simp[qa6,qh]);have b2:=c.cell 2 _ rfl;have p2:=c.free 2 (by simp[qa6,qh]);have b3:=c.cell 3 _ rfl;have p3:=c.free 3 (by simp[qa6,qh]);have b4:=c.cell 4 _ rfl;have p4:=c.free 4 (by simp[qa6,qh]);have b5:=c.cell 5 _ rfl;have p5:=c.free 5 (by simp[qa6,qh]);have ab:=((((((c.set 0 (U s) (by simp[qa6,qh])).set 1 (U t) (by simp[qa6,qh])).set 2 (U m) (by simp[qa6,qh])).set 3 (U o) (by simp[qa6,qh])).set 4 (.string y) (by simp[qa6,qh])).set 5 (.bool B) (by simp[qa6,qh]));have R:=((((((g.setCell (p:=AD (w.heap.size+1+1) 0) (by show w.heap.size<=w.heap.size+1+1;omega) (U s)).setCell (p:=AD (w.heap.size+1+1) 1) (by show w.heap.size<=w.heap.size+1+1;omega) (U t)).setCell (p:=AD (w.heap.size+1+1) 2) (by show w.heap.size<=w.heap.size+1+1;omega) (U m)).setCell (p:=AD (w.heap.size+1+1) 3) (by show w.heap.size<=w.heap.size+1+1;omega) (U o)).setCell (p:=AD (w.heap.size+1+1) 4) (by show w.heap.size<=w.heap.size+1+1;omega) (.string y)).setCell (p:=AD (w.heap.size+1+1) 5) (by show w.heap.size<=w.heap.size+1+1;omega) (.bool B));have ac:=((((((d.far (AD (w.heap.size+1+1) 0) (U s) (by show w.heap.size+1+1≠w.heap.size+1;omega)).far (AD (w.heap.size+1+1) 1) (U t) (by show w.heap.size+1+1≠w.heap.size+1;omega)).far (AD (w.heap.size+1+1) 2) (U m) (by show w.heap.size+1+1≠w.heap.size+1;omega)).far (AD (w.heap.size+1+1) 3) (U o) (by show w.heap.size+1+1≠w.heap.size+1;omega)).far (AD (w.heap.size+1+1) 4) (.string y) (by show w.heap.size+1+1≠w.heap.size+1;omega)).far (AD (w.heap.size+1+1) 5) (.bool B) (by show w.heap.size+1+1≠w.heap.size+1;omega));have ad:=((((((q.far (AD (w.heap.size+1+1) 0) (U s) (by show w.heap.size+1+1≠w.heap.size;omega)).far (AD (w.heap.size+1+1) 1) (U t) (by show w.heap.size+1+1≠w.heap.size;omega)).far (AD (w.heap.size+1+1) 2) (U m) (by show w.heap.size+1+1≠w.heap.size;omega)).far (AD (w.heap.size+1+1) 3) (U o) (by show w.heap.size+1+1≠w.heap.size;omega)).far (AD (w.heap.size+1+1) 4) (.string y) (by show w.heap.size+1+1≠w.heap.size;omega)).far (AD (w.heap.size+1+1) 5) (.bool B) (by show w.heap.size+1+1≠w.heap.size;omega))
    clear f C g d q c
    go_wp2_with fail
    go_roundw
    case rel=>exact⟨k+1,z+1,by omega,by have:=P.out;omega,by go_num,by rw[G.out];rfl,by rw[G.out];exact ab,ac,ad,R⟩
    simp[intOf];omega
   |some bv=>
    have sn:qga (some bv)=true:=rfl;have v0:=qb.cell (c.cell 0 _ rfl);have v1:=qb.cell (c.cell 1 _ rfl);have v2:=qb.cell (c.cell 2 _ rfl);have v3:=qb.cell (c.cell 3 _ rfl);have v4:=qb.cell (c.cell 4 _ rfl);have v5:=qb.cell (c.cell 5 _ rfl);cases hbf:qw bv ⟨s,t,m,o,y,B⟩
    ·have S:=hd1 hbf;clear hbf
     go_wp2_with fail
     refine wrl ?_
     repeat (go_big_quiet_step ((go_at_call 183;with_reducible exact qg (ql7 S.out _))))
     refine wpQuiet_nil ?_;rintro Q ⟨⟨_,f⟩,rfl⟩;replace c:=c.later f;replace d:=d.later f;replace q:=q.later f;replace g:=qa g f;have C:=λj v (h:(hdL ⟨F,⟨s,t,m,o,y,B⟩⟩)[j]?=some v)=>cell_later f (H.cell j v h)
     have G:Hid (zn key a0 a1 a2 a3 (l.take (k+1))=some bv):=by show zn key a0 a1 a2 a3 (l.take (k+1))=some bv;rw[qgk D,M.out,N.out];exact qe7 (λx=>by have:=x.2.2;simp only[S.out]at this;cases this)
     clear f C
     go_wp2_with fail
     go_roundw
     case rel=>exact⟨k+1,z+1,by omega,by have:=P.out;omega,by go_num,by rw[G.out],by rw[G.out];exact c,d,q,g⟩
     simp[intOf];omega
    have S:=hd1 hbf;clear hbf
    go_wp2_with fail
    refine wrl ?_
    repeat (go_big_quiet_step ((go_at_call 183;with_reducible exact qg (ql7 S.out _))))
    refine wpQuiet_nil ?_;rintro Q ⟨⟨_,f⟩,rfl⟩;replace c:=c.later f;replace d:=d.later f;replace q:=q.later f;replace g:=qa g f;have C:=λj v (h:(hdL ⟨F,⟨s,t,m,o,y,B⟩⟩)[j]?=some v)=>cell_later f (H.cell j v h)
    have G:Hid (zn key a0 a1 a2 a3 (l.take (k+1))=some ⟨s,t,m,o,y,B⟩):=by show zn key a0 a1 a2 a3 (l.take (k+1))=_;rw[qgk D,M.out,N.out];exact qgj ⟨V.out,X.out,S.out⟩
    have y1:=C 1 _ rfl;have y2:=C 2 _ rfl;have y3:=C 3 _ rfl;have y4:=C 4 _ rfl;have y5:=C 5 _ rfl;have y6:=C 6 _ rfl;have b0:=c.cell 0 _ rfl;have p0:=c.free 0 (by simp[qa6,qh]);have b1:=c.cell 1 _ rfl;have p1:=c.free 1 (by simp[qa6,qh]);have b2:=c.cell 2 _ rfl;have p2:=c.free 2 (by simp[qa6,qh]);have b3:=c.cell 3 _ rfl;have p3:=c.free 3 (by simp[qa6,qh]);have b4:=c.cell 4 _ rfl;have p4:=c.free 4 (by simp[qa6,qh]);have b5:=c.cell 5 _ rfl;have p5:=c.free 5 (by simp[qa6,qh]);have ab:=((((((c.set 0 (U s) (by simp[qa6,qh])).set 1 (U t) (by simp[qa6,qh])).set 2 (U m) (by simp[qa6,qh])).set 3 (U o) (by simp[qa6,qh])).set 4 (.string y) (by simp[qa6,qh])).set 5 (.bool B) (by simp[qa6,qh]));have R:=((((((g.setCell (p:=AD (w.heap.size+1+1) 0) (by show w.heap.size<=w.heap.size+1+1;omega) (U s)).setCell (p:=AD (w.heap.size+1+1) 1) (by show w.heap.size<=w.heap.size+1+1;omega) (U t)).setCell (p:=AD (w.heap.size+1+1) 2) (by show w.heap.size<=w.heap.size+1+1;omega) (U m)).setCell (p:=AD (w.heap.size+1+1) 3) (by show w.heap.size<=w.heap.size+1+1;omega) (U o)).setCell (p:=AD (w.heap.size+1+1) 4) (by show w.heap.size<=w.heap.size+1+1;omega) (.string y)).setCell (p:=AD (w.heap.size+1+1) 5) (by show w.heap.size<=w.heap.size+1+1;omega) (.bool B));have ac:=((((((d.far (AD (w.heap.size+1+1) 0) (U s) (by show w.heap.size+1+1≠w.heap.size+1;omega)).far (AD (w.heap.size+1+1) 1) (U t) (by show w.heap.size+1+1≠w.heap.size+1;omega)).far (AD (w.heap.size+1+1) 2) (U m) (by show w.heap.size+1+1≠w.heap.size+1;omega)).far (AD (w.heap.size+1+1) 3) (U o) (by show w.heap.size+1+1≠w.heap.size+1;omega)).far (AD (w.heap.size+1+1) 4) (.string y) (by show w.heap.size+1+1≠w.heap.size+1;omega)).far (AD (w.heap.size+1+1) 5) (.bool B) (by show w.heap.size+1+1≠w.heap.size+1;omega));have ad:=((((((q.far (AD (w.heap.size+1+1) 0) (U s) (by show w.heap.size+1+1≠w.heap.size;omega)).far (AD (w.heap.size+1+1) 1) (U t) (by show w.heap.size+1+1≠w.heap.size;omega)).far (AD (w.heap.size+1+1) 2) (U m) (by show w.heap.size+1+1≠w.heap.size;omega)).far (AD (w.heap.size+1+1) 3) (U o) (by show w.heap.size+1+1≠w.heap.size;omega)).far (AD (w.heap.size+1+1) 4) (.string y) (by show w.heap.size+1+1≠w.heap.size;omega)).far (AD (w.heap.size+1+1) 5) (.bool B) (by show w.heap.size+1+1≠w.heap.size;omega))
    clear f C g d q c
    go_wp2_with fail
    go_roundw
    case rel=>exact⟨k+1,z+1,by omega,by have:=P.out;omega,by go_num,by rw[G.out];rfl,by rw[G.out];exact ab,ac,ad,R⟩
    simp[intOf];omega
  have ek:=beq_eq_false_iff_ne.2 O;have V:=hd1 O;clear O
  go_wp2_with fail
  refine wrl ?_
  repeat (go_big_quiet_step (fail))
  refine wpQuiet_nil ?_;rintro Q ⟨⟨_,f⟩,rfl⟩;replace c:=c.later f;replace d:=d.later f;replace q:=q.later f;replace g:=qa g f;have C:=λj v (h:(hdL ⟨F,⟨s,t,m,o,y,B⟩⟩)[j]?=some v)=>cell_later f (H.cell j v h)
  have G:Hid (zn key a0 a1 a2 a3 (l.take (k+1))=E):=by show zn key a0 a1 a2 a3 (l.take (k+1))=E;rw[qgk D,M.out,N.out];exact qe7 (λx=>V.out x.1)
  clear f C
  go_wp2_with fail
  go_roundw
  case rel=>exact⟨k+1,z+1,by omega,by have:=P.out;omega,by go_num,by rw[G.out],by rw[G.out];exact c,d,q,g⟩
  simp[intOf];omega
 have e:k=l.length:=by omega
 obtain⟨E,K⟩:∃E,zn key a0 a1 a2 a3 (l.take k)=E:=⟨_,rfl⟩
 have M:Hid (zn key a0 a1 a2 a3 l=E):=by show zn key a0 a1 a2 a3 l=E;rw[<-K,e,jc9]
 rw[K,qjl]at c;rw[K];clear K e;obtain⟨v,hv⟩:∃v,E.getD jq=v:=⟨_,rfl⟩;rw[hv]at c;have HV:=hd1 hv;clear hv;obtain⟨sv,hsv⟩:∃sv,qga E=sv:=⟨_,rfl⟩;rw[hsv];have HSV:=hd1 hsv;clear hsv;have b0:=c.cell 0 _ rfl;have r0:=d.cell 0 _ rfl;have p0:=d.free 0 (by simp[qh]);have b1:=c.cell 1 _ rfl;have r1:=d.cell 1 _ rfl;have p1:=d.free 1 (by simp[qh]);have b2:=c.cell 2 _ rfl;have r2:=d.cell 2 _ rfl;have p2:=d.free 2 (by simp[qh]);have b3:=c.cell 3 _ rfl;have r3:=d.cell 3 _ rfl;have p3:=d.free 3 (by simp[qh]);have b4:=c.cell 4 _ rfl;have r4:=d.cell 4 _ rfl;have p4:=d.free 4 (by simp[qh]);have b5:=c.cell 5 _ rfl;have r5:=d.cell 5 _ rfl;have p5:=d.free 5 (by simp[qh]);have RZ:=((((((d.set 0 (U v.wall) (by simp[qh])).set 1 (U v.count) (by simp[qh])).set 2 (U v.site) (by simp[qh])).set 3 (U v.seq) (by simp[qh])).set 4 (.string v.data) (by simp[qh])).set 5 (.bool v.gone) (by simp[qh]));have R:=((((((g.setCell (p:=AD (w.heap.size+1) 0) (by show w.heap.size<=w.heap.size+1;omega) (U v.wall)).setCell (p:=AD (w.heap.size+1) 1) (by show w.heap.size<=w.heap.size+1;omega) (U v.count)).setCell (p:=AD (w.heap.size+1) 2) (by show w.heap.size<=w.heap.size+1;omega) (U v.site)).setCell (p:=AD (w.heap.size+1) 3) (by show w.heap.size<=w.heap.size+1;omega) (U v.seq)).setCell (p:=AD (w.heap.size+1) 4) (by show w.heap.size<=w.heap.size+1;omega) (.string v.data)).setCell (p:=AD (w.heap.size+1) 5) (by show w.heap.size<=w.heap.size+1;omega) (.bool v.gone));clear c d q g
 go_wp2_with fail
 refine bodyPost_ret (qte (v:=v) RZ rfl rfl) rfl ⟨?_,R⟩;rw[M.out,qjl,HV.out,HSV.out]
theorem qrb {cap:Nat} (key a0 a1 a2 a3:Int) (w:World) (K:w.cell? (AD sb so)=some (.slice a l.length cap)) (L:q3s w a cap l) (M:∀h∈l,qau h.v=true) (O:l.length<=1000000):
 Ca 91 #[.pointer (some (AD sb so)),U key,.agg #[U a0,U a1,U a2,U a3]] w λe w'=>
  e=.returned (.tuple #[.agg (qh (zz key a0 a1 a2 a3 l).1).toArray,U (zz key a0 a1 a2 a3 l).2])/\Bw w w':=by
 have P:=hd1 M;clear M;have m:=(qo.new w 77 a0 a1 a2 a3).boxed (.cells YA 130);have b:qd ((w.alloc (.cells #[U a0,U a1,U a2,U a3] 77)).alloc (.cells YA 130)) (w.heap.size+1) (qh jq):=qd.new (w:=w.alloc (.cells #[U a0,U a1,U a2,U a3] 77)) (T:=130) (n:=w.heap.size+1) YL (by simp);have c:=boxed (boxed (jcc _ w) (.cells #[U a0,U a1,U a2,U a3] 77)) (.cells YA 130);have s0:=cell_later c K;have u:=L.later c;clear K L;cases hk:inB key 0 7
 ·have o:Hid (zz key a0 a1 a2 a3 l=(jq,2)):=by show zz key a0 a1 a2 a3 l=(jq,2);unfold zz;rw[hk];rfl
  have y:=hd1 hk;clear hk;go_enter Tryz.func91,Tryz.ntmps91
  go_wp2_with fail
  refine(vj y.out _).mono ?_;rintro e Q ⟨rfl,d⟩;replace b:=b.later d;replace c:=qa c d;clear d m s0 u;have z:=b.cell 0 _ rfl;have p0:=b.free 0 (by simp[qh]);have B:=b.cell 1 _ rfl;have p1:=b.free 1 (by simp[qh]);have C:=b.cell 2 _ rfl;have p2:=b.free 2 (by simp[qh]);have D:=b.cell 3 _ rfl;have p3:=b.free 3 (by simp[qh]);have E:=b.cell 4 _ rfl;have F:=b.free 4 (by simp[qh]);have G:=b.cell 5 _ rfl;have H:=b.free 5 (by simp[qh]);have q:=((((((b.set 0 (U 0) (by simp[qh])).set 1 (U 0) (by simp[qh])).set 2 (U 0) (by simp[qh])).set 3 (U 0) (by simp[qh])).set 4 (.string ⟨#[]⟩) (by simp[qh])).set 5 (.bool false) (by simp[qh]));have r:=((((((c.setCell (p:=AD (w.heap.size+1) 0) (by show w.heap.size<=w.heap.size+1;omega) (U 0)).setCell (p:=AD (w.heap.size+1) 1) (by show w.heap.size<=w.heap.size+1;omega) (U 0)).setCell (p:=AD (w.heap.size+1) 2) (by show w.heap.size<=w.heap.size+1;omega) (U 0)).setCell (p:=AD (w.heap.size+1) 3) (by show w.heap.size<=w.heap.size+1;omega) (U 0)).setCell (p:=AD (w.heap.size+1) 4) (by show w.heap.size<=w.heap.size+1;omega) (.string ⟨#[]⟩)).setCell (p:=AD (w.heap.size+1) 5) (by show w.heap.size<=w.heap.size+1;omega) (.bool false))
  go_wp2_with fail
  refine bodyPost_ret (qf2 (v:=jq) q rfl rfl) rfl ⟨?_,r⟩;rw[o.out]
 have y:=hd1 hk
 have N:Hid (zz key a0 a1 a2 a3 l=qjj (zn key a0 a1 a2 a3 l)):=by show zz key a0 a1 a2 a3 l=_;unfold zz;rw[hk];rfl
 clear hk;go_enter Tryz.func91,Tryz.ntmps91
 go_wp2_with fail
 refine(vj y.out _).mono ?_;rintro e Q ⟨rfl,d⟩;replace b:=b.later d;replace m:=m.later d;replace c:=qa c d;replace s0:=cell_later d s0;replace u:=u.later d;clear d;have R:=m.c0;have S:=m.c1;have V:=m.c2;have W:=m.c3
 go_wp2_with fail
 refine(qri key a0 a1 a2 a3 _ s0 u P.out O).mono ?_;rintro e w2 ⟨rfl,t⟩;clear R S V W m s0 u;obtain⟨x,I⟩:∃x,zn key a0 a1 a2 a3 l=x:=⟨_,rfl⟩
 have J:Hid (zz key a0 a1 a2 a3 l=qjj x):=by show zz key a0 a1 a2 a3 l=_;rw[N.out,I]
 rw[I,qjl];clear I N;cases x with
 |none=>
  have o:Hid (zz key a0 a1 a2 a3 l=(jq,8)):=J.out;have X:qga none=false:=rfl;show _;rw[show qh ((none:Option Ver).getD jq)=YL from rfl];replace b:=(b.later t).boxed (.cells YA 130);replace c:=boxed (qa c t) (.cells YA 130);clear t;have z:=b.cell 0 _ rfl;have p0:=b.free 0 (by simp[qh]);have B:=b.cell 1 _ rfl;have p1:=b.free 1 (by simp[qh]);have C:=b.cell 2 _ rfl;have p2:=b.free 2 (by simp[qh]);have D:=b.cell 3 _ rfl;have p3:=b.free 3 (by simp[qh]);have E:=b.cell 4 _ rfl;have F:=b.free 4 (by simp[qh]);have G:=b.cell 5 _ rfl;have H:=b.free 5 (by simp[qh]);have q:=((((((b.set 0 (U 0) (by simp[qh])).set 1 (U 0) (by simp[qh])).set 2 (U 0) (by simp[qh])).set 3 (U 0) (by simp[qh])).set 4 (.string ⟨#[]⟩) (by simp[qh])).set 5 (.bool false) (by simp[qh]));have r:=((((((c.setCell (p:=AD (w.heap.size+1) 0) (by show w.heap.size<=w.heap.size+1;omega) (U 0)).setCell (p:=AD (w.heap.size+1) 1) (by show w.heap.size<=w.heap.size+1;omega) (U 0)).setCell (p:=AD (w.heap.size+1) 2) (by show w.heap.size<=w.heap.size+1;omega) (U 0)).setCell (p:=AD (w.heap.size+1) 3) (by show w.heap.size<=w.heap.size+1;omega) (U 0)).setCell (p:=AD (w.heap.size+1) 4) (by show w.heap.size<=w.heap.size+1;omega) (.string ⟨#[]⟩)).setCell (p:=AD (w.heap.size+1) 5) (by show w.heap.size<=w.heap.size+1;omega) (.bool false))
  go_wp2_with fail
  refine bodyPost_ret (qf2 (v:=jq) q rfl rfl) rfl ⟨?_,r⟩;rw[o.out]
 |some v=>
  obtain⟨f,g,i,j,k,s⟩:=v;have X:qga (some (⟨f,g,i,j,k,s⟩:Ver))=true:=rfl;rw[show qh ((some (⟨f,g,i,j,k,s⟩:Ver)).getD jq)=[U f,U g,U i,U j,.string k,.bool s]from rfl];replace b:=(b.later t).boxed (.cells #[U f,U g,U i,U j,.string k,.bool s] 130);have Y:=qd.new (w:=w2) (T:=130) [U f,U g,U i,U j,.string k,.bool s] rfl;replace c:=boxed (qa c t) (.cells #[U f,U g,U i,U j,.string k,.bool s] 130);clear t;obtain⟨Z,b1,b2,b3,b4,b5⟩:=Y.c6;cases s
  ·have o:Hid (zz key a0 a1 a2 a3 l=(⟨f,g,i,j,k,false⟩,0)):=J.out;have z:=b.cell 0 _ rfl;have p0:=b.free 0 (by simp[qh]);have B:=b.cell 1 _ rfl;have p1:=b.free 1 (by simp[qh]);have C:=b.cell 2 _ rfl;have p2:=b.free 2 (by simp[qh]);have D:=b.cell 3 _ rfl;have p3:=b.free 3 (by simp[qh]);have E:=b.cell 4 _ rfl;have F:=b.free 4 (by simp[qh]);have G:=b.cell 5 _ rfl;have H:=b.free 5 (by simp[qh]);have q:=((((((b.set 0 (U f) (by simp[qh])).set 1 (U g) (by simp[qh])).set 2 (U i) (by simp[qh])).set 3 (U j) (by simp[qh])).set 4 (.string k) (by simp[qh])).set 5 (.bool false) (by simp[qh]));have r:=((((((c.setCell (p:=AD (w.heap.size+1) 0) (by show w.heap.size<=w.heap.size+1;omega) (U f)).setCell (p:=AD (w.heap.size+1) 1) (by show w.heap.size<=w.heap.size+1;omega) (U g)).setCell (p:=AD (w.heap.size+1) 2) (by show w.heap.size<=w.heap.size+1;omega) (U i)).setCell (p:=AD (w.heap.size+1) 3) (by show w.heap.size<=w.heap.size+1;omega) (U j)).setCell (p:=AD (w.heap.size+1) 4) (by show w.heap.size<=w.heap.size+1;omega) (.string k)).setCell (p:=AD (w.heap.size+1) 5) (by show w.heap.size<=w.heap.size+1;omega) (.bool false))
   go_wp2_with fail
   refine bodyPost_ret (qf2 (v:=⟨f,g,i,j,k,false⟩) q rfl rfl) rfl ⟨?_,r⟩;rw[o.out]
  have o:Hid (zz key a0 a1 a2 a3 l=(jq,8)):=J.out;have z:=b.cell 0 _ rfl;have p0:=b.free 0 (by simp[qh]);have B:=b.cell 1 _ rfl;have p1:=b.free 1 (by simp[qh]);have C:=b.cell 2 _ rfl;have p2:=b.free 2 (by simp[qh]);have D:=b.cell 3 _ rfl;have p3:=b.free 3 (by simp[qh]);have E:=b.cell 4 _ rfl;have F:=b.free 4 (by simp[qh]);have G:=b.cell 5 _ rfl;have H:=b.free 5 (by simp[qh]);have q:=((((((b.set 0 (U 0) (by simp[qh])).set 1 (U 0) (by simp[qh])).set 2 (U 0) (by simp[qh])).set 3 (U 0) (by simp[qh])).set 4 (.string ⟨#[]⟩) (by simp[qh])).set 5 (.bool false) (by simp[qh]));have r:=((((((c.setCell (p:=AD (w.heap.size+1) 0) (by show w.heap.size<=w.heap.size+1;omega) (U 0)).setCell (p:=AD (w.heap.size+1) 1) (by show w.heap.size<=w.heap.size+1;omega) (U 0)).setCell (p:=AD (w.heap.size+1) 2) (by show w.heap.size<=w.heap.size+1;omega) (U 0)).setCell (p:=AD (w.heap.size+1) 3) (by show w.heap.size<=w.heap.size+1;omega) (U 0)).setCell (p:=AD (w.heap.size+1) 4) (by show w.heap.size<=w.heap.size+1;omega) (.string ⟨#[]⟩)).setCell (p:=AD (w.heap.size+1) 5) (by show w.heap.size<=w.heap.size+1;omega) (.bool false))
  go_wp2_with fail
  refine bodyPost_ret (qf2 (v:=jq) q rfl rfl) rfl ⟨?_,r⟩;rw[o.out]
end
open Tryz Go.RowKit
theorem ja3 {r:List Int} (h:r.length=2):∃u v,r=[u,v]:=by
 match r,h with
 |[u,v],_=>exact⟨u,v,rfl⟩
section
variable {a:Option Addr} {cap:Nat} {l:List ByteArray}
theorem qi1 (i:∀x∈l,x.size<=1000000) (w:World) (g:Gl w) (h:qfj w a cap l):
 Ca 95 #[.slice a l.length cap] w λe w'=>Bw w w'/\((∃v,Hid (ju 1 l=some [v])/\e=.returned (U v))\/(Hid (ju 1 l=none)/\e=qc7 3)):=by
 have j:=qiw (m:=1) (by decide) i w g h
 have k:Hid (∀r,ju 1 l=some r->r.length=1):=λr c=>by
  unfold ju at c;split at c
  ·rename_i q;rw[qbb c,q]
  cases c
 go_enter func95,ntmps95
 go_wp2_with fail
 refine j.mono ?_;rintro e o d;cases hn:ju 1 l with
 |none=>
  rw[hn]at d;obtain⟨rfl,f⟩:e=qc7 3/\_:=d;exact⟨rfl,f,.inr ⟨hn,rfl⟩⟩
 |some r=>
  rw[hn]at d;obtain⟨v,rfl⟩:∃v,r=[v]:=List.length_eq_one_iff.1 (k.out r hn);obtain⟨b,rfl,c,f⟩:=d;have p:=c.cell 0 _ rfl;have n:=hd1 hn
  go_wp2
  go_ret;exact⟨f,.inl ⟨v,n,rfl⟩⟩
theorem qls (i:∀x∈l,x.size<=1000000) (w:World) (g:Gl w) (h:qfj w a cap l):
 Ca 97 #[.slice a l.length cap] w λe w'=>Bw w w'/\((∃u v,Hid (ju 2 l=some [u,v])/\e=.returned (.tuple #[U u,U v]))\/(Hid (ju 2 l=none)/\e=qc7 3)):=by
 have j:=qiw (m:=2) (by decide) i w g h
 have k:Hid (∀r,ju 2 l=some r->r.length=2):=λr c=>by
  unfold ju at c;split at c
  ·rename_i q;rw[qbb c,q]
  cases c
 go_enter func97,ntmps97
 go_wp2_with fail
 refine j.mono ?_;rintro e o d;cases hn:ju 2 l with
 |none=>
  rw[hn]at d;obtain⟨rfl,f⟩:e=qc7 3/\_:=d;exact⟨rfl,f,.inr ⟨hn,rfl⟩⟩
 |some r=>
  rw[hn]at d;obtain⟨u,v,rfl⟩:∃u v,r=[u,v]:=ja3 (k.out r hn);obtain⟨b,rfl,c,f⟩:=d;have p:=c.cell 0 _ rfl;have s:=c.cell 1 _ rfl;have n:=hd1 hn
  go_wp2
  go_region
  go_wp2
  go_ret2;exact⟨f.drew,.inl ⟨u,v,n,rfl⟩⟩
theorem qpc (i:∀x∈l,x.size<=1000000) (w:World) (g:Gl w) (h:qfj w a cap l):
 Ca 99 #[.slice a l.length cap] w λe w'=>Bw w w'/\((Hid (ju 0 l=some [])/\e=.returned (.tuple #[]))\/(Hid (ju 0 l=none)/\e=qc7 3)):=by
 have j:=qiw (m:=0) (by decide) i w g h
 have k:Hid (∀r,ju 0 l=some r->r.length=0):=λr c=>by
  unfold ju at c;split at c
  ·rename_i q;rw[qbb c,q]
  cases c
 go_enter func99,ntmps99
 go_wp2_with fail
 refine j.mono ?_;rintro e o d;cases hn:ju 0 l with
 |none=>
  rw[hn]at d;obtain⟨rfl,f⟩:e=qc7 3/\_:=d;exact⟨rfl,f,.inr ⟨hn,rfl⟩⟩
 |some r=>
  rw[hn]at d;obtain rfl:r=[]:=jc2 (k.out r hn);obtain⟨b,rfl,c,f⟩:=d;have n:=hd1 hn
  go_wp2
  go_end0;exact⟨f,.inl ⟨n,rfl⟩⟩
end
theorem qda (n:Int) (w:World) (g:Gl w):Ca 66 #[jc n] w λe w'=>Bw w w'/\((n=0/\e=.returned (.tuple #[]))\/(n≠0/\e=qc7 n)):=by
 unfold jc;by_cases h:n=0
 ·rw[if_pos h];go_enter func66,ntmps66
  go_wp2
  go_end0;exact⟨jcc _ _,.inl ⟨h,rfl⟩⟩
 rw[if_neg h];have T:=qzi n w g.et;have b:Hid (n≠0):=h;go_enter func66,ntmps66
 go_wp2_with fail
 refine T.mono ?_;rintro e d ⟨rfl,c⟩
 go_wp2
 exact⟨rfl,c,.inr ⟨b.out,rfl⟩⟩
theorem jz (a b:List UInt8):bya a++bya b=bya (a++b):=by
 apply ByteArray.ext
 simp[bya]
theorem qq7 (n:Int) (b:wfI n) (w:World) (g:Gl w):Ca 7 #[U n] w λe w'=>e=.returned (.string (bya (qgt n)))/\Bw w w':=by
 have d:=Lib.itoa_length_le n b.1 b.2;have T:=qsn n b w g;have f:=λw=>qfi (P:=prog) ⟨#[101,114,114,111,114,32]⟩ (bya (Lib.itoa n)) (by show 6+(Lib.itoa n).toArray.size<=_;simp;omega) w;go_enter func7,ntmps7
 go_wp2_with fail
 refine T.mono ?_;rintro e h ⟨rfl,c⟩
 go_wp2
 go_ret;refine⟨?_,c⟩;have:=jz [101,114,114,111,114,32] (Lib.itoa n);rw[show qgt n=[101,114,114,111,114,32]++Lib.itoa n from rfl,<-this];rfl
def qen (x:Int):ByteArray:=bya (Lib.itoa x)
theorem qn2 (l:List Int):Lib.join ((l.map qen).map (·.data.toList)) [32]=qv l:=by
 unfold qv;rw[List.map_map]
 congr 1
theorem qgl (n:Nat):∀(l:List (List UInt8)),(∀x∈l,x.length<=n)->(Lib.join l [32]).length<=l.length*(n+1)
 |[],_=>by simp[Lib.join,List.intercalate]
 |[x],h=>by
  have:=h x (by simp);simp[Lib.join,List.intercalate];omega
 |x::y::l,h=>by
  have d:=h x (by simp);have b:=qgl n (y::l) (λz c=>h z (jdc _ c))
  have e:Lib.join (x::y::l) [32]=x++[32]++Lib.join (y::l) [32]:=by simp[Lib.join,List.intercalate]
  rw[e];simp only[jcl,List.length_cons,List.length_nil]at b ⊢;rw[Nat.succ_mul];omega
variable {l:List Int}
theorem ze (h:∀x∈l,wfI x):(qv l).length<=l.length*22:=by
 have:=qgl 21 (l.map Lib.itoa) (λy c=>by
  obtain⟨x,b,rfl⟩:=jcz.1 c
  exact Lib.itoa_length_le x (h x b).1 (h x b).2)
 simpa[qv]using this
theorem qg3 {w w':World} {B n N:Nat} {T:TypeId} {v:Value} {xs:List Value} (h:w.ownsRow B T N v n xs) (b:Bw w w'):w'.ownsRow B T N v n xs:=qf h (λk e=>b.block k (h.lt k e).2)
theorem qb1 {b o cap:Nat} (v:l≠[]) (D:l.length<=8) (L:∀x∈l,wfI x) (w:World) (g:Gl w) (m:b<w.heap.size) (n:∀(j:Nat) x,l[j]?=some x->w.cell? (AD b (o+j))=some (U x)):
 Ca 102 #[.slice (some (AD b o)) l.length cap] w λe w'=>e=.returned (.string (bya (qv l)))/\Bw w w':=by
 obtain⟨M,hi,N,O,P⟩:=info_parts qki;have i:=hd6 g L m n v D;go_enter func102,ntmps102
 go_wp2
 go_loopw [3,8] (λE iv wr=>∃(k:Nat) (z:Int),k<=l.length/\z=k/\iv=U z/\Hid (wr.ownsRow w.heap.size 9 1 E k ((l.take k).map (λx=>Value.string (qen x)))/\Bw w wr)) (λ_ iv _=>l.length-(intOf iv).toNat)
 case atStart=>exact⟨0,0,jcw _,rfl,rfl,jcx w _ _ _,jcc _ _⟩
 rename_i E _;obtain⟨k,z,hk,Q,rfl,c⟩:=hrel;have R:=hd1 Q;by_cases F:k<l.length
 ·have S:z<(l.length:Int):=by omega
  have g2:0<=z:=by omega
  have g3:z.toNat=k:=by omega
  have g4:z<8:=by have:=i.out.2.2.2.2.2;omega
  obtain⟨x,B⟩:∃x,l[k]?=some x:=⟨_,jcg F⟩;obtain⟨G,C,m,n,_⟩:=i.out;have c0:=(c.out.2.cell (p:=AD b (o+k)) m).trans (n k x B);have T:=qsn x (C x (jcq B)) wr (G.later c.out.2)
  have V:Hid ((l.take (k+1)).map (λx=>Value.string (qen x))=(l.take k).map (λx=>Value.string (qen x))++[.string (qen x)]):=by
   show _=_;rw[jdu,B];simp
  go_wp2_with fail
  refine T.mono ?_;rintro e w2 ⟨rfl,r⟩;have W:=boxed (jcc _ w2) (.cells #[.string (qen x)] 9);have H:=qg3 (qg3 c.out.1 r) W;have f:=hd1 (qa c.out.2 r)
  go_wp2_with (at_builtin;refine wpList_append_lies _ rfl _ _ 42 rfl w.heap.size 9 M (.string ⟨#[]⟩) 1 16 underlying42 hi N O P rfl (by decide) _ _ _ rfl H (AD w2.heap.size 0) 1 1 [.string (qen x)] rfl rfl (World.news_of_block (heap_alloc_new w2 (.cells #[.string (qen x)] 9))) ?c2 (by decide) ?c3 ?c4 ?c5 _ rfl ?_)
  case c2=>intro u I;simp at I;subst I;rfl
  case c3=>have:=i.out.2.2.2.2.2;unfold maxLen;omega
  case c4=>have:=i.out.2.2.2.2.2;omega
  case c5=>have:=f.out.size;simp;omega
  intro s t K X Y at3 lt3
  have Z:Hid (K.ownsRow w.heap.size 9 1 (.slice (PT s) (k+1) t) (k+1) ((l.take (k+1)).map (λx=>Value.string (qen x)))/\Bw w K):=by
   refine⟨by rw[V.out];simpa[List.map_take]using X,?_⟩;exact(f.out.alloc f.out.size _).grown Y (by have:=f.out.size;simp;omega) (λq e=>(H.lt q e).1)
  go_wp2
  go_roundw
  case rel=>exact⟨k+1,z+1,F,by have:=R.out;omega,by go_num,Z.out⟩
  simp[intOf];omega
 have S:¬z<(l.length:Int):=by omega
 have aa:k=l.length:=by omega
 subst aa;rw[jc9]at c;obtain⟨G,C,m,n,v,D⟩:=i.out;have ab:=List.length_pos_iff.2 v;obtain⟨s,t,rfl,hB,ac⟩:=c.out.1.form ab;have ad:=c.out.1.cells (g:=s) rfl
 have ae:l.length<=t:=by
  rcases c.out.1.2 with ⟨h,_⟩|⟨g',c',cur,hv,_,_,hnc,_⟩
  ·cases h
  cases hv;exact hnc
 have J:=jd1 s 0 t (l.map qen) ⟨#[32]⟩ wr (λj y d=>by
  have:=ad j (.string y) (by rw[jcv]at d ⊢;cases hq:l[j]?with
   |none=>rw[hq]at d;cases d
   |some q=>rw[hq]at d;injection d with d;subst d;rfl)
  rcases Nat.eq_zero_or_pos j with rfl|hj
  ·simpa[Addr.add]using this
  simpa[Addr.add,Nat.ne_of_gt hj]using this) ac (by simp;omega) (by simpa using ae) (by
  rw[show (⟨#[32]⟩:ByteArray).data.toList=[32]from rfl,qn2];have:=ze C
  omega)
 rw[jdh,show (⟨#[32]⟩:ByteArray).data.toList=[32]from rfl,qn2]at J;have f:=hd1 c.out.2
 go_wp2_with fail
 refine J.mono ?_;rintro e w2 ⟨rfl,r⟩
 go_wp2
 go_ret;exact⟨rfl,qa f.out r⟩
end Go.Proofs.YtoanjdndmlffdaaGreatDoor
