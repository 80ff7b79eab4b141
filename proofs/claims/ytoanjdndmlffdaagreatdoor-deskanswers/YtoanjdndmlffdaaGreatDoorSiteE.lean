import Derived.Stop.Asserts
import Derived.Test.YtoanjdndmlffdaaGreatDoorSiteD
import Derived.Lib.AppendIntMem
import Derived.Test.YtoanjdndmlffdaaGreatDoorRows
import Derived.LaidHandle
import Derived.Stop.LaidErr
import Derived.Lib.ItoaLen
set_option maxHeartbeats 8000000
set_option maxRecDepth 100000
namespace Go.Proofs.YtoanjdndmlffdaaGreatDoor
section
open Tryz Go.RowKit Go.Extern.Stop Go.Stop Go.Extern
theorem qts (t:Addr) (w:World):(ReflectliteValue.unpack (.iface 225 (.pointer (some t)))).run prog w
 =.ok (.agg #[.pointer (some ⟨10,225,none⟩),.pointer (some ⟨w.heap.size,0,none⟩),.int .u64 150]) (w.alloc (.cells #[.pointer (some t)] 225)):=by kernel_rfl
theorem q5e (a:Addr) (w:World):(ReflectliteValue.methodAny (ReflectliteValue.valueError "reflectlite.Value.Type" 0) (λt _ _ _=>ReflectliteType.toType t) #[.agg #[.pointer (some ⟨10,225,none⟩),.pointer (some a),.int .u64 150]]).run prog w
 =.ok (.iface 312 (.agg #[.pointer (some ⟨10,225,none⟩)])) w:=by kernel_rfl
theorem q92 (h:Value) (w:World):(Go.method 477 312 (.agg #[h]) "Kind").run prog w=.ok (309,h) w:=by kernel_rfl
theorem jbs (h:Value) (w:World):(Go.method 477 312 (.agg #[h]) "Elem").run prog w=.ok (323,.agg #[h]) w:=by kernel_rfl
theorem ja5 (h:Value) (w:World):(Go.method 477 312 (.agg #[h]) "Implements").run prog w=.ok (324,.agg #[h]) w:=by kernel_rfl
theorem q4z (h:Value) (w:World):(Go.method 477 312 (.agg #[h]) "AssignableTo").run prog w=.ok (321,.agg #[h]) w:=by kernel_rfl
theorem q2v (w:World):((ReflectliteType.abiMethod λt=>(λa:Nat=>Value.int IntKind.u8 (a:Int))<$>Rtype.kind t) #[.pointer (some ⟨10,225,none⟩)]).run prog w=.ok (.int .u8 22) w:=by kernel_rfl
theorem jb7 (w:World):((ReflectliteType.abiMethod λt=>(λa:Nat=>Value.int IntKind.u8 (a:Int))<$>Rtype.kind t) #[.pointer (some ⟨10,26,none⟩)]).run prog w=.ok (.int .u8 2) w:=by kernel_rfl
theorem q4i (w:World):(ReflectliteType.method ReflectliteType.elem #[.agg #[.pointer (some ⟨10,225,none⟩)]]).run prog w=.ok (.iface 312 (.agg #[.pointer (some ⟨10,26,none⟩)])) w:=by kernel_rfl
theorem jao (w:World):(ReflectliteType.relation "Implements" ReflectliteType.implements_ #[.agg #[.pointer (some ⟨10,26,none⟩)],.iface 312 (.agg #[.pointer (some ⟨10,37,none⟩)])]).run prog w=.ok (.bool true) w:=by kernel_rfl
theorem q3y (v:Value) (w:World):(ReflectliteType.typeOf #[.iface 26 v]).run prog w=.ok (.iface 312 (.agg #[.pointer (some ⟨10,26,none⟩)])) w:=by kernel_rfl
theorem q2r (w:World):(ReflectliteType.relation "AssignableTo" ReflectliteType.assignableTo #[.agg #[.pointer (some ⟨10,26,none⟩)],.iface 312 (.agg #[.pointer (some ⟨10,26,none⟩)])]).run prog w=.ok (.bool true) w:=by kernel_rfl
theorem q0s (n:Int) (w:World):(ReflectliteValue.unpack (.iface 26 (.int .i64 n))).run prog w
 =.ok (.agg #[.pointer (some ⟨10,26,none⟩),.pointer (some ⟨w.heap.size,0,none⟩),.int .u64 130]) (w.alloc (.cells #[.int .i64 n] 26)):=by kernel_rfl
theorem qqm (a:Addr) (w:World):(ReflectliteValue.parts (.agg #[.pointer (some ⟨10,225,none⟩),.pointer (some a),.int .u64 150])).run prog w=.ok (some (225,a,150)) w:=by kernel_rfl
theorem q0g (a:Addr) (w:World):(ReflectliteValue.parts (.agg #[.pointer (some ⟨10,26,none⟩),.pointer (some a),.int .u64 386])).run prog w=.ok (some (26,a,386)) w:=by kernel_rfl
theorem q7q (a:Addr) (w:World):(ReflectliteValue.parts (.agg #[.pointer (some ⟨10,26,none⟩),.pointer (some a),.int .u64 130])).run prog w=.ok (some (26,a,130)) w:=by kernel_rfl
theorem q86 (w:World):(Rtype.elem? 225).run prog w=.ok (some 26) w:=by kernel_rfl
theorem jet (p:Addr) (w:World):(ReflectliteValue.mk 26 p ReflectliteValue.flagAddr).run prog w=.ok (.agg #[.pointer (some ⟨10,26,none⟩),.pointer (some p),.int .u64 386]) w:=by kernel_rfl
theorem q7c (w:World):(Rtype.directlyAssignable 26 26).run prog w=.ok true w:=by kernel_rfl
theorem jcn (a p:Addr) (W:World) (b:W.cell? a=some (.pointer (some p))):
 (ReflectliteValue.method (ReflectliteValue.valueError "reflectlite.Value.IsNil" 0) ReflectliteValue.isNil #[.agg #[.pointer (some ⟨10,225,none⟩),.pointer (some a),.int .u64 150]]).run prog W=.ok (.bool false) W:=by
 refine Eq.trans (congrArg (λs=>Sem.run prog s W) (show ReflectliteValue.method (ReflectliteValue.valueError "reflectlite.Value.IsNil" 0) ReflectliteValue.isNil #[(.agg #[.pointer (some ⟨10,225,none⟩),.pointer (some a),.int .u64 150])]=(ReflectliteValue.parts (.agg #[.pointer (some ⟨10,225,none⟩),.pointer (some a),.int .u64 150])>>=_)from rfl)) ?_;simp only[Sem.run_bind,qqm,Result.andThen];simp[ReflectliteValue.isNil,loadVar,isAgg,underlying,underlying225,b,Result.andThen]
theorem jci (a p:Addr) (W:World) (b:W.cell? a=some (.pointer (some p))):
 (ReflectliteValue.method (ReflectliteValue.valueError "reflectlite.Value.Elem" 0) ReflectliteValue.elem #[.agg #[.pointer (some ⟨10,225,none⟩),.pointer (some a),.int .u64 150]]).run prog W
  =.ok (.agg #[.pointer (some ⟨10,26,none⟩),.pointer (some p),.int .u64 386]) W:=by
 refine Eq.trans (congrArg (λs=>Sem.run prog s W) (show ReflectliteValue.method (ReflectliteValue.valueError "reflectlite.Value.Elem" 0) ReflectliteValue.elem #[(.agg #[.pointer (some ⟨10,225,none⟩),.pointer (some a),.int .u64 150])]=(ReflectliteValue.parts (.agg #[.pointer (some ⟨10,225,none⟩),.pointer (some a),.int .u64 150])>>=_)from rfl)) ?_;simp only[Sem.run_bind,qqm,Result.andThen];simp[ReflectliteValue.elem,loadVar,isAgg,underlying,underlying225,b,Result.andThen,q86,jet]
theorem jeb (a b:Addr) (n:Int) (c:Value) (W:World) (hb:W.cell? b=some (.int .i64 n)) (d:W.cell? a=some c) (e:W.frozen? a=false):
 (ReflectliteValue.set #[.agg #[.pointer (some ⟨10,26,none⟩),.pointer (some a),.int .u64 386],.agg #[.pointer (some ⟨10,26,none⟩),.pointer (some b),.int .u64 130]]).run prog W
  =.ok (.tuple #[]) (W.setCell a (.int .i64 n)):=by
 refine Eq.trans (congrArg (λs=>Sem.run prog s W) (show ReflectliteValue.set #[(.agg #[.pointer (some ⟨10,26,none⟩),.pointer (some a),.int .u64 386]),(.agg #[.pointer (some ⟨10,26,none⟩),.pointer (some b),.int .u64 130])]=(ReflectliteValue.parts (.agg #[.pointer (some ⟨10,26,none⟩),.pointer (some a),.int .u64 386])>>=λ_=>ReflectliteValue.parts (.agg #[.pointer (some ⟨10,26,none⟩),.pointer (some b),.int .u64 130])>>=_)from rfl)) ?_;simp only[Sem.run_bind,q0g,q7q,Result.andThen];simp[ReflectliteValue.flagAddr,loadVar,isAgg,underlying,underlying26,hb,Result.andThen,q7c,storeVar,Value.cells,storeCells,Addr.add];rw[run_store prog W a _ _ (by rfl)];simp[d,e]
end
section
open Tryz Go.RowKit Go.Extern.Stop Go.Stop Go.Extern
theorem jc4 (n:Int) (t:Addr) (a:Value) (w:World) (b:w.cell? ⟨3,0,none⟩=some (.iface 312 (.agg #[.pointer (some ⟨10,37,none⟩)]))) (c:w.cell? t=some a) (e:w.frozen? t=false):
 Calls prog 166 #[.iface 26 (.int .i64 n),.iface 225 (.pointer (some t))] w λev w'=>ev=.returned (.bool true)/\w'=((((w.alloc (.cells #[.pointer (some t)] 225)).alloc (.cells #[.pointer (some ⟨10,225,none⟩),.pointer (some ⟨w.heap.size,0,none⟩),.int .u64 150] 270)).alloc (.cells #[.pointer (some ⟨10,225,none⟩),.pointer (some ⟨w.heap.size,0,none⟩),.int .u64 150] 270)).alloc (.cells #[.int .i64 n] 26)).setCell t (.int .i64 n):=by
 have i:=@run_callFunc_extern prog 222 _ (λargs=>ReflectliteValue.unpack (args.getD 0 (.tuple #[]))) func222 (by kernel_rfl) (by kernel_rfl) (by kernel_rfl) (by kernel_rfl);have j:=@run_callFunc_extern prog 223 _ (ReflectliteValue.methodAny (ReflectliteValue.valueError "reflectlite.Value.Type" 0) (λt _ _ _=>ReflectliteType.toType t)) func223 (by kernel_rfl) (by kernel_rfl) (by kernel_rfl) (by kernel_rfl);have k:=@run_callFunc_extern prog 224 _ (ReflectliteValue.method (ReflectliteValue.valueError "reflectlite.Value.IsNil" 0) ReflectliteValue.isNil) func224 (by kernel_rfl) (by kernel_rfl) (by kernel_rfl) (by kernel_rfl);have l:=@run_callFunc_extern prog 309 _ (ReflectliteType.abiMethod λt=>do pure (.int .u8 (<-Rtype.kind t))) func309 (by kernel_rfl) (by kernel_rfl) (by kernel_rfl) (by kernel_rfl);have m:=@run_callFunc_extern prog 323 _ (ReflectliteType.method ReflectliteType.elem) func323 (by kernel_rfl) (by kernel_rfl) (by kernel_rfl) (by kernel_rfl);have o:=@run_callFunc_extern prog 324 _ (ReflectliteType.relation "Implements" ReflectliteType.implements_) func324 (by kernel_rfl) (by kernel_rfl) (by kernel_rfl) (by kernel_rfl);have p:=@run_callFunc_extern prog 264 _ ReflectliteType.typeOf func264 (by kernel_rfl) (by kernel_rfl) (by kernel_rfl) (by kernel_rfl);have q:=@run_callFunc_extern prog 321 _ (ReflectliteType.relation "AssignableTo" ReflectliteType.assignableTo) func321 (by kernel_rfl) (by kernel_rfl) (by kernel_rfl) (by kernel_rfl)
 have r:=@run_callFunc_extern prog 265 _ (ReflectliteValue.method (ReflectliteValue.valueError "reflectlite.Value.Elem" 0) ReflectliteValue.elem) func265 (by kernel_rfl) (by kernel_rfl) (by kernel_rfl) (by kernel_rfl);have s:=@run_callFunc_extern prog 266 _ ReflectliteValue.set func266 (by kernel_rfl) (by kernel_rfl) (by kernel_rfl) (by kernel_rfl);have u:=q3y;have v:=q4z;have x:=q2r;have y:=q0s;have f6:=qts;have f7:=q5e;have z:=q92;have B:=jbs;have C:=ja5;have D:=q2v;have E:=jb7;have F:=q4i;have G:=jao;have H:=jcn ⟨w.heap.size,0,none⟩ t ((w.alloc (.cells #[.pointer (some t)] 225)).alloc (.cells #[.pointer (some ⟨10,225,none⟩),.pointer (some ⟨w.heap.size,0,none⟩),.int .u64 150] 270)) (by simp);have h:3<w.heap.size:=World.block_lt_of_cell? _ _ b;have d:t.block<w.heap.size:=World.block_lt_of_cell? _ _ c
 have I:((w.alloc (.cells #[.pointer (some t)] 225)).alloc (.cells #[.pointer (some ⟨10,225,none⟩),.pointer (some ⟨w.heap.size,0,none⟩),.int .u64 150] 270)).cell? ⟨3,0,none⟩=some (.iface 312 (.agg #[.pointer (some ⟨10,37,none⟩)])):=by
  rw[World.cell?_alloc_lt _ _ ⟨3,0,none⟩ (by simp<;>omega),World.cell?_alloc_lt _ _ ⟨3,0,none⟩ h];exact b
 have J:=jci ⟨w.heap.size,0,none⟩ t (((w.alloc (.cells #[.pointer (some t)] 225)).alloc (.cells #[.pointer (some ⟨10,225,none⟩),.pointer (some ⟨w.heap.size,0,none⟩),.int .u64 150] 270)).alloc (.cells #[.pointer (some ⟨10,225,none⟩),.pointer (some ⟨w.heap.size,0,none⟩),.int .u64 150] 270)) (by rw[World.cell?_alloc_lt _ _ ⟨w.heap.size,0,none⟩ (by simp;omega)];simp)
 have st:=jeb t ⟨w.heap.size+1+1+1,0,none⟩ n a ((((w.alloc (.cells #[.pointer (some t)] 225)).alloc (.cells #[.pointer (some ⟨10,225,none⟩),.pointer (some ⟨w.heap.size,0,none⟩),.int .u64 150] 270)).alloc (.cells #[.pointer (some ⟨10,225,none⟩),.pointer (some ⟨w.heap.size,0,none⟩),.int .u64 150] 270)).alloc (.cells #[.int .i64 n] 26))
  (by rw[World.cell?_alloc_at _ _ _ _ (by simp)];rfl)
  (by rw[World.cell?_alloc_lt _ _ t (by simp;omega),World.cell?_alloc_lt _ _ t (by simp;omega),World.cell?_alloc_lt _ _ t (by simp;omega),World.cell?_alloc_lt _ _ t d];exact c)
  (by rw[World.frozen?_alloc_old _ _ t (by simp;omega),World.frozen?_alloc_old _ _ t (by simp;omega),World.frozen?_alloc_old _ _ t (by simp;omega),World.frozen?_alloc_old _ _ t (Nat.ne_of_lt d)];exact e)
 go_enter func166,ntmps166
 go_wp2
 refine wp_loop_rounds 1 ?_;rw[rounds_succ]
 go_wp2
 go_ret;exact⟨rfl,rfl⟩
theorem q1b (n:Int) (w:World) (a:w.cell? ⟨3,0,none⟩=some (.iface 312 (.agg #[.pointer (some ⟨10,37,none⟩)]))):
 Calls prog 119 #[.iface 26 (.int .i64 n)] w λe w'=>e=.returned (.int .i64 n)/\Below w.heap.size w w':=by
 have b:=cell_later (boxed (Below.refl _ w) (.cells #[.int .i64 0] 26)) a
 have c:(w.alloc (.cells #[.int .i64 0] 26)).cell? ⟨w.heap.size,0,none⟩=some (.int .i64 0):=by simp
 have d:(w.alloc (.cells #[.int .i64 0] 26)).frozen? ⟨w.heap.size,0,none⟩=false:=by simp
 go_enter func119,ntmps119
 go_wp2_with fail
 refine(jc4 _ _ (.int .i64 0) _ b c d).mono ?_;rintro e h ⟨rfl,rfl⟩
 go_wp2
 go_ret;refine⟨rfl,?_⟩
 repeat (first|(with_reducible exact Below.refl _ _)|(with_reducible refine boxed ?_ _)|(with_reducible refine Below.setCell ?_ (Nat.le_refl _) _))
end
section
open Tryz Go.Value Go.IntKind Go.RowKit
structure Gl (w:World):Prop where
 sz:10<=w.heap.size
 et:w.cell? ⟨3,0,none⟩=some (.iface 312 (.agg #[.pointer (some ⟨10,37,none⟩)]))
 tab:Lib.TabIs prog w "internal/strconv.uint64pow10" .u64 Lib.pow10Tab
 es:∃t p,w.cell? ⟨6,0,none⟩=some (.iface t p)
 er:∃t p,w.cell? ⟨7,0,none⟩=some (.iface t p)
 ml:∃m,w.cell? ⟨1,0,none⟩=some (int i64 m)
theorem qtu:prog.globalNamed "internal/strconv.uint64pow10"=some 2:=by kernel_rfl
variable {w w':World}
theorem Gl.kept (g:Gl w) (d:∀k,k<10->w'.heap[k]?=w.heap[k]?) (hs:w.heap.size<=w'.heap.size):Gl w':=by
 have c:∀{k:Nat} {v:Value},k<10->w.cell? ⟨k,0,none⟩=some v->w'.cell? ⟨k,0,none⟩=some v:=λe h=>by rw[World.cell?_of_block (w:=w) (d _ e)];exact h
 obtain⟨f,i,b,⟨t4,j,n⟩,⟨t5,o,p⟩,m,q⟩:=g;refine⟨Nat.le_trans f hs,c (by decide) i,?_,⟨t4,j,c (by decide) n⟩,⟨t5,o,c (by decide) p⟩,m,c (by decide) q⟩;unfold Lib.TabIs World.var? at b ⊢;rw[qtu]at b ⊢;simp only[Option.bind_some]at b ⊢;rw[d _ (by decide)];exact b
theorem Gl.later (g:Gl w) (hb:Below w.heap.size w w'):Gl w':=g.kept (λk b=>hb.block k (Nat.lt_of_lt_of_le b g.sz)) hb.size
def qf0 (n:Int):Ending:=.panicked [{v:=.iface 26 (int i64 n),recovered:=false}]
def jcv (o:Option Int) (e:Ending):Prop:=match o with
 |some v=>e=.returned (int i64 v)
 |none=>e=qf0 3
theorem qvb (v:Int) (h:wfI v) (w:World) (g:Gl w):Calls prog 18 #[int i64 v] w λe w'=>e=.returned (.string (bya (Lib.itoa v)))/\Below w.heap.size w w':=
 (Tryz.strconv_Itoa v h.1 h.2 w g.tab).mono λ_ _ ⟨b,k,os,c⟩=>⟨b,by rw[c];exact Lib.below_grow _ w (Nat.le_refl _) k os⟩
theorem qs3 (v:Int) (h:wfI v) (w:World) (g:Gl w):Calls prog 76 #[int i64 v,int i64 10] w λe w'=>e=.returned (.string (bya (Lib.itoa v)))/\Below w.heap.size w w':=
 (Tryz.strconv_FormatInt_10 v h.1 h.2 w g.tab).mono λ_ _ ⟨b,k,os,c⟩=>⟨b,by rw[c];exact Lib.below_grow _ w (Nat.le_refl _) k os⟩
theorem qya (s:ByteArray) (hs:s.size<=1000000) (v:Int) (h:Lib.parseIntB 64 s.data.toList=.ok v) (w:World):Calls prog 75 #[.string s,int i64 10,int i64 64] w λe w'=>e=.returned (.tuple #[int i64 v,.nilIface])/\Below w.heap.size w w':=
 (Tryz.strconv_ParseInt_10_at64_ok s (by omega) v h w).mono λ_ _ ⟨b,c⟩=>⟨b,by
  rcases c with rfl|⟨t,rfl⟩
  ·exact Below.refl _ _
  ·exact Lib.bytesWorld_below _ _ _⟩
theorem q1m (s:ByteArray) (hs:s.size<=1000000) (w:World) (g:Gl w):
 Calls prog 201 #[.string s] w λe w'=>jcv (qh9 s) e/\Below w.heap.size w w':=by
 by_cases b:∃v,Lib.parseIntB 64 s.data.toList=.ok v
 ·obtain⟨v,b⟩:=b
  have d:wfI v:=by have:=Lib.parseIntB_bounds b;simp at this;exact⟨by omega,by omega⟩
  have p:=qya s hs v b w
  have h:Hid (qh9 s=if bya (Lib.itoa v)=s then some v else none):=by show qh9 s=_;unfold qh9;rw[b]
  have i:=λw' hb=>qs3 v d w' (g.later (w':=w') hb);have j:=jdv (bya (Lib.itoa v)) s;clear b
  generalize bya (Lib.itoa v)=t at h i j
  go_enter func201,ntmps201
  go_wp2_with fail
  refine p.mono ?_;rintro e u ⟨rfl,m⟩;replace i:=i u m;by_cases c:t=s
  ·have x:(t.toList==s.toList)=true:=by rw[j];simp[c]
   have o:Hid (qh9 s=some v):=by show qh9 s=_;rw[h.out,if_pos c]
   clear c j h
   go_wp2_with fail
   refine i.mono ?_;rintro e w2 ⟨rfl,q⟩
   go_wp2
   go_ret;exact⟨by rw[o.out];rfl,qab m q⟩
  ·have x:(t.toList==s.toList)=false:=by rw[j];simp[c]
   have o:Hid (qh9 s=none):=by show qh9 s=_;rw[h.out,if_neg c]
   clear c j h
   go_wp2_with fail
   refine i.mono ?_;rintro e w2 ⟨rfl,q⟩
   go_wp2
   exact⟨rfl,by rw[o.out];rfl,qab m q⟩
 ·have r:∀v,Lib.parseIntB 64 s.data.toList≠.ok v:=λv d=>b ⟨v,d⟩;have p:=Tryz.parse_no s (by omega) r w g.es g.er
  have o:Hid (qh9 s=none):=by
   show qh9 s=none;unfold qh9;split
   ·rename_i v d;exact absurd d (r v)
   ·rfl
  clear b r;go_enter func201,ntmps201
  go_wp2_with fail
  refine p.mono ?_;rintro e u ⟨n,N,rfl,m⟩
  go_wp2
  exact⟨rfl,by rw[o.out];rfl,m⟩
structure qiv (w:World) (a:Option Addr) (cap:Nat) (l:List ByteArray):Prop where
 cap:l.length<=cap
 cell:∀(j:Nat) x,l[j]?=some x->∃b o,a=some ⟨b,o,none⟩/\b<w.heap.size/\w.cell? ⟨b,o+j,none⟩=some (.string x)
variable {a:Option Addr} {l:List ByteArray}
theorem qiv.later {cap:Nat} (h:qiv w a cap l) (hb:Below w.heap.size w w'):qiv w' a cap l:=
 ⟨h.cap,λj x d=>by obtain⟨b,o,e,c,f⟩:=h.cell j x d;exact⟨b,o,e,Nat.lt_of_lt_of_le c hb.size,(hb.cell (p:=⟨b,o+j,none⟩) c).trans f⟩⟩
theorem q53:(prog.info? 3).map (λi=>(i.zero,i.size,i.bytes))=some (some (int i64 0),1,8):=by kernel_rfl
theorem q2d {n:Nat} (b:n<=6) (w:World):(Instr.makeSlice 69 (int i64 n) (int i64 n)).run prog w=.ok (.slice (some ⟨w.heap.size,0,none⟩) n n) (w.alloc (.cells (madeCells #[int i64 0] n) 3)):=
 run_make_row' _ 3 (int i64 0) 8 underlying69 q53 rfl .i64 .i64 n (by omega) (by omega) w
def qin (l:List Int):List Value:=l.map (λx=>Value.int .i64 x)
def qrp (w:World) (o:Option (List Int)) (e:Ending) (w':World):Prop:=match o with
 |some l=>∃b,e=.returned (.slice (some ⟨b,0,none⟩) l.length l.length)/\qag w' b (qin l)/\Below w.heap.size w w'
 |none=>e=qf0 3/\Below w.heap.size w w'
variable {k:Nat} {vs:List Int}
theorem q07 (b:k<l.length) (h:qfo (l.take k)=some vs):qfo (l.take (k+1))=(qh9 l[k]).map (λv=>vs++[v]):=by
 induction l generalizing k vs with
 |nil=>simp at b
 |cons x l ih=>
  cases k with
  |zero=>
   simp[qfo]at h;subst h;simp[qfo]
   cases qh9 x<;>rfl
  |succ k=>
   simp only[List.take_succ_cons,qfo]at h ⊢;cases hx:qh9 x with
   |none=>rw[hx]at h;cases h
   |some v=>
    rw[hx]at h;simp only at h ⊢;cases hl:qfo (l.take k)with
    |none=>rw[hl]at h;cases h
    |some r=>
     rw[hl]at h;injection h with h;subst h;rw[ih (by simpa using b) hl];simp only[List.getElem_cons_succ]
     cases qh9 (l[k]'(by simpa using b))<;>rfl
theorem q0k (h:qfo (l.take k)=none):qfo l=none:=by
 induction l generalizing k with
 |nil=>simpa using h
 |cons x l ih=>
  cases k with
  |zero=>simp[qfo]at h
  |succ k=>
   simp only[List.take_succ_cons,qfo]at h ⊢;cases hx:qh9 x with
   |none=>rfl
   |some v=>
    rw[hx]at h;simp only at h ⊢;cases hl:qfo (l.take k)with
    |none=>rw[ih hl]
    |some r=>rw[hl]at h;cases h
theorem qdi:∀{l:List ByteArray},qfo l=some vs->vs.length=l.length
 |[],vs,h=>by simp[qfo]at h;subst h;rfl
 |x::l,vs,h=>by
  simp only[qfo]at h;cases hx:qh9 x with
  |none=>rw[hx]at h;cases h
  |some v=>
   rw[hx]at h;simp only at h;cases hl:qfo l with
   |none=>rw[hl]at h;cases h
   |some r=>
    rw[hl]at h;injection h with h;subst h;simp[qdi hl]
theorem qjs {cap:Nat} {m:Nat} (B:m<=6) (C:∀x∈l,x.size<=1000000) (w:World) (g:Gl w) (h:qiv w a cap l):
 Calls prog 140 #[.slice a l.length cap,int i64 m] w (qrp w (qb5 m l)):=by
 by_cases i:l.length=m
 ·subst i;have Q:=q2d B w
  have n:Hid (qb5 l.length l=qfo l):=by show qb5 l.length l=_;unfold qb5;rw[if_pos rfl]
  have Z:=h.cap
  have J:qag (w.alloc (.cells (madeCells #[int i64 0] l.length) 3)) w.heap.size (List.replicate l.length (int i64 0)):=by
   have:=qag.new (w:=w) (T:=3) (madeCells #[Value.int .i64 0] l.length).toList rfl
   rwa [Array.toArray_toList,toList_madeCells_one]at this
  have R:Hid (qiv w a cap l/\Gl w/\∀x∈l,x.size<=1000000):=⟨h,g,C⟩;have K:=boxed (Below.refl _ w) (.cells (madeCells #[int i64 0] l.length) 3);have S:Hid _:=B;clear h g C B;go_enter func140,ntmps140
  go_wp2
  go_loopw [17] (λiv wr=>∃(k:Nat) (z:Int) (vs:List Int),k<=l.length/\z=k/\iv=int i64 z/\Hid (qfo (l.take k)=some vs/\qag wr w.heap.size (qin vs++List.replicate (l.length-k) (int i64 0))/\Below w.heap.size w wr)) (λiv _=>l.length-(intOf iv).toNat)
  case atStart=>exact⟨0,0,[],Nat.zero_le _,rfl,rfl,rfl,J,K⟩
  case round=>
   clear J K Q;obtain⟨k,z,vs,hk,D,rfl,c⟩:=hrel;have U:Hid _:=D
   have j:vs.length=k:=by rw[qdi c.out.1,List.length_take];omega
   by_cases q:k<l.length
   ·have g1:z<(l.length:Int):=by omega
    have g2:0<=z:=by omega
    have g3:z.toNat=k:=by omega
    have g4:z<6:=by have:=S.out;omega
    obtain⟨x,r⟩:∃x,l[k]?=some x:=⟨_,List.getElem?_eq_getElem q⟩;obtain⟨L,M,N⟩:=R.out;obtain⟨b,o,rfl,hb,hc⟩:=(L.later c.out.2.2).cell k x r
    have E:Hid (qfo (l.take (k+1))=(qh9 x).map (λv=>vs++[v])):=by
        have:=q07 q c.out.1;rw[(List.getElem?_eq_some_iff.1 r).2]at this;exact this
    have V:=q1m x (N x (List.mem_of_getElem? r)) wr (M.later c.out.2.2);clear L M N D r
    go_wp2_with fail
    refine V.mono ?_;rintro e w2 ⟨s,F⟩;have G:=qab c.out.2.2 F;have u:=c.out.2.1.later F;cases hn:qh9 x with
    |none=>
     rw[hn]at s;have H:e=.panicked [{v:=.iface 26 (int i64 3),recovered:=false}]:=s;subst H;have d:=E.out;rw[hn]at d;exact⟨rfl,by unfold qrp;rw[n.out,q0k d];exact⟨rfl,G⟩⟩
    |some v=>
     rw[hn]at s;have H:e=.returned (int i64 v):=s;subst H
     have i:(qin vs++List.replicate (l.length-k) (Value.int .i64 0)).length=l.length:=by simp[qin];omega
     have c0:w2.cell? ⟨w.heap.size,k,none⟩=some (int i64 0):=u.cell k _ (by
      rw[List.getElem?_append_right (by simp[qin,j]),show k-(qin vs).length=0 by simp[qin,j],show l.length-k=(l.length-(k+1))+1 by omega]
      rfl)
     have f0:=u.free k (by rw[i];exact q)
     have O:Hid (qag (w2.setCell ⟨w.heap.size,k,none⟩ (int i64 v)) w.heap.size (qin (vs++[v])++List.replicate (l.length-(k+1)) (int i64 0))/\Below w.heap.size w (w2.setCell ⟨w.heap.size,k,none⟩ (int i64 v))):=by
      refine⟨?_,G.setCell (p:=⟨w.heap.size,k,none⟩) (Nat.le_refl _) _⟩;have:=u.set k (int i64 v) (by rw[i];exact q);rw[List.set_append_right _ _ (by simp[qin];omega)]at this
      have W:l.length-k=(l.length-(k+1))+1:=by omega
      rw[W,List.replicate_succ]at this;simpa[qin,j]using this
     have X:Hid (qfo (l.take (k+1))=some (vs++[v])):=by have d:=E.out;rw[hn]at d;exact d
     clear E hn u G F i j
     go_wp2
     go_roundw
     case rel=>exact⟨k+1,z+1,vs++[v],q,by have:=U.out;omega,by go_num,X.out,O.out.1,O.out.2⟩
     case measure=>simp[intOf];omega
   ·have g1:¬z<(l.length:Int):=by omega
    have y:k=l.length:=by omega
    have I:Hid (qb5 l.length l=some vs/\qag wr w.heap.size (qin vs)/\Below w.heap.size w wr):=by
        have P:=c.out.1;have d:=c.out.2.1;rw[y,List.take_length]at P;rw[y,Nat.sub_self,List.replicate_zero,List.append_nil]at d;exact⟨n.out.trans P,d,c.out.2.2⟩
    have Y:Hid _:=j.trans y;clear D y c n j
    go_wp2
    go_ret;unfold qrp;rw[I.out.1];exact⟨w.heap.size,by simp[Y.out],I.out.2.1,I.out.2.2⟩
 ·have n:Hid (qb5 m l=none):=by show qb5 m l=none;unfold qb5;rw[if_neg i]
  have hne:¬(l.length:Int)=(m:Int):=by omega
  clear h g C i;go_enter func140,ntmps140
  go_wp2
  exact⟨rfl,by unfold qrp;rw[n.out];exact⟨rfl,Below.refl _ _⟩⟩
end
section
open Tryz
theorem q6d:prog.globalNamed "errors.errorType"=some 3:=by kernel_rfl
theorem jdy:(prog.cutTypes.find? (·.1=="internal/reflectlite.rtype")).map (·.2)=some 312:=by kernel_rfl
theorem q71:((List.range 377).filter λt=>prog.rowNamed t [101,114,114,111,114])=[37]:=by kernel_rfl
theorem q5p:prog.types.size=377:=by kernel_rfl
variable {W:World}
theorem jdx (h:handlesMet prog [("errors.errorType",Rows.laid_errors_errorType)] W):W.cell? ⟨3,0,none⟩=some (.iface 312 (.agg #[.pointer (some ⟨10,37,none⟩)])):=by
 obtain⟨c,u,d,e,f,i,j,a⟩:=h _ (List.mem_singleton.2 rfl);have k:c=[101,114,114,111,114]:=(Option.some.inj e).symm;subst k;obtain rfl:=Option.some.inj (jdy.symm.trans f);have b:d∈(List.range 377).filter λt=>prog.rowNamed t [101,114,114,111,114]:=List.mem_filter.2 ⟨List.mem_range.2 (by rw[<-q5p];exact i),j⟩;rw[q71]at b;obtain rfl:=List.mem_singleton.1 b
 have l:typeHandle prog 37=.pointer (some ⟨10,37,none⟩):=by kernel_rfl
 rw[l]at a;simpa using World.var?_cell q6d a 0
theorem qri {P:Program} {n nm:String} {d:DataW Unit} {r:List (String×DataW Unit)} {g:Nat} {a:TypeId} {c:Array (String×TypeId)} (h:laidMet P ((n,.iface nm d)::r) W) (f:P.globalNamed n=some g) (i:(P.globals[g]?).map (·.type)=some a) (hi:P.underlying a=some (.interface c)):∃t p,W.cell? ⟨g,0,none⟩=some (.iface t p):=by
 obtain⟨ps,⟨m,t0,o,f0,p0,q,b,j,k,l,_,s⟩,_⟩:=h;obtain rfl:=Option.some.inj (f.symm.trans b);obtain rfl:=Option.some.inj (i.symm.trans j);obtain⟨_,u,v,e,_⟩:=iface_of_trod hi l;have:=World.var?_cell b k 0;rw[Array.eq_one_of_toList e]at this;exact⟨u,v,by simpa using this⟩
theorem jeg (b:∃r,laidMet prog (("internal/strconv.uint64pow10",Rows.laid_internal_strconv_uint64pow10)::r) W) (a:∃r,laidMet prog (("strconv.ErrRange",Rows.laid_strconv_ErrRange)::("strconv.ErrSyntax",Rows.laid_strconv_ErrSyntax)::r) W) (c:handlesMet prog [("errors.errorType",Rows.laid_errors_errorType)] W) (hs:W.ShapedOpen prog):Gl W:=by
 obtain⟨d,b⟩:=b;obtain⟨e,a⟩:=a
 have sz:∃o,W.heap[9]?=some o:=by
  obtain⟨f,h,_⟩:=hs.1 9 (Array.replicate 64 (.int .u8 0)) 330 (of_decide_eq_true (by kernel_rfl)) (by kernel_rfl);exact⟨_,h⟩
 obtain⟨o,sz⟩:=sz;have sz:=(Array.getElem?_eq_some_iff.1 sz).1;exact⟨by omega,jdx c,Lib.tabIs_of_head qtu (by kernel_rfl) underlying252 underlying192 (by kernel_rfl) (by kernel_rfl) (zs:=Lib.pow10Tab) b,qri a.tail (by kernel_rfl) (by kernel_rfl) underlying37,qri a (by kernel_rfl) (by kernel_rfl) underlying37,cell_of_shapedOpen_int (t:=3) (zero:=#[.int .i64 0]) hs (of_decide_eq_true (by kernel_rfl)) (by kernel_rfl) rfl (by kernel_rfl) (by kernel_rfl) underlying3⟩
end
section
open Tryz Go.Value Go.IntKind Go.RowKit
theorem qhf (a b c d:Int) (w:World):
 Calls prog 182 #[.agg #[int i64 a,int i64 b],.agg #[int i64 c,int i64 d]] w λe w'=>e=.returned (int i64 (qkj a b c d))/\Below w.heap.size w w':=by
 have i:=qx1;rcases qet a b c d with ⟨h,e⟩|⟨⟨rfl,rfl⟩,e⟩|⟨h,e⟩
 ·have hs:qm7 a b c d=false:=by simp[qm7];omega
  rw[e];clear e;rcases h with h|⟨rfl,h⟩
  ·go_enter func182,ntmps182
   go_wp2
   go_ret;exact⟨rfl,boxed (boxed (Below.refl _ _) _) _⟩
  ·go_enter func182,ntmps182
   go_wp2
   go_ret;exact⟨rfl,boxed (boxed (Below.refl _ _) _) _⟩
 ·have hs:=qzd a b;rw[e];clear e;go_enter func182,ntmps182
  go_wp2
  go_ret;exact⟨rfl,boxed (boxed (Below.refl _ _) _) _⟩
 ·have hs:qm7 a b c d=false:=by simp[qm7];omega
  rw[e];clear e;rcases h with h|⟨rfl,h⟩
  ·have g:¬a<c:=by omega
   have j:(a==c)=false:=by simp;omega
   go_enter func182,ntmps182
   go_wp2
   go_ret;exact⟨rfl,boxed (boxed (Below.refl _ _) _) _⟩
  ·have g:¬b<d:=by omega
   go_enter func182,ntmps182
   go_wp2
   go_ret;exact⟨rfl,boxed (boxed (Below.refl _ _) _) _⟩
theorem qpw (lw lc now:Int) (w:World) (h:(qal lw&&qal lc)=false):
 Calls prog 179 #[.agg #[int i64 lw,int i64 lc],int i64 now] w λe w'=>e=.returned (.tuple #[.agg #[int i64 0,int i64 0],int i64 2])/\Below w.heap.size w w':=by
 go_enter func179,ntmps179
 go_wp2_with fail
 refine(qeu _ _ _).mono ?_;rintro e a ⟨rfl,hb⟩;obtain⟨b,c⟩:=qhg hb
 have d:w.heap.size+1<a.heap.size:=by have:=hb.size;simp at this;omega
 go_wp2_with (go_at_call 28;refine(qef _ _).mono ?_;rintro e w' ⟨rfl,rfl⟩)
 refine bodyPost_ret (v:=.tuple #[.agg #[int i64 0,int i64 0],int i64 2]) (by simp[results,results179,go_sem,b]) rfl ⟨rfl,?_⟩
 repeat (first|(with_reducible exact qkq hb)|(with_reducible refine Below.setCell ?_ (by simp) _))
theorem qp4 (lw lc now:Int) (w:World) (h:(qal lw&&qal lc)=true) (c:qal now=false):
 Calls prog 179 #[.agg #[int i64 lw,int i64 lc],int i64 now] w λe w'=>e=.returned (.tuple #[.agg #[int i64 0,int i64 0],int i64 2])/\Below w.heap.size w w':=by
 go_enter func179,ntmps179
 go_wp2_with fail
 refine(qeu _ _ _).mono ?_;rintro e a ⟨rfl,hb⟩;obtain⟨b,d⟩:=qhg hb
 have g:w.heap.size+1<a.heap.size:=by have:=hb.size;simp at this;omega
 go_wp2_with (go_at_call 28;refine(qef _ _).mono ?_;rintro e w' ⟨rfl,rfl⟩)
 refine bodyPost_ret (v:=.tuple #[.agg #[int i64 0,int i64 0],int i64 2]) (by simp[results,results179,go_sem,b]) rfl ⟨rfl,?_⟩
 repeat (first|(with_reducible exact qkq hb)|(with_reducible refine Below.setCell ?_ (by simp) _))
theorem quc (lw lc now:Int) (w:World) (h:(qal lw&&qal lc)=true) (c:qal now=true) (d:lw<now):
 Calls prog 179 #[.agg #[int i64 lw,int i64 lc],int i64 now] w λe w'=>e=.returned (.tuple #[.agg #[int i64 now,int i64 0],int i64 0])/\Below w.heap.size w w':=by
 go_enter func179,ntmps179
 go_wp2_with fail
 refine(qeu _ _ _).mono ?_;rintro e a ⟨rfl,hb⟩;obtain⟨b,g⟩:=qhg hb
 have i:w.heap.size+1<a.heap.size:=by have:=hb.size;simp at this;omega
 go_wp2_with (go_at_call 28;refine(qef _ _).mono ?_;rintro e w' ⟨rfl,rfl⟩)
 refine bodyPost_ret (v:=.tuple #[.agg #[int i64 now,int i64 0],int i64 0]) (by simp[results,results179,go_sem,b]) rfl ⟨rfl,?_⟩
 repeat (first|(with_reducible exact qkq hb)|(with_reducible refine Below.setCell ?_ (by simp) _))
theorem qt0 (lw lc now:Int) (w:World) (h:(qal lw&&qal lc)=true) (b:qal now=true) (c:¬lw<now) (d:0<=lc) (g:lc<=1099511627776) (i:1099511627776<lc+1):
 Calls prog 179 #[.agg #[int i64 lw,int i64 lc],int i64 now] w λe w'=>e=.returned (.tuple #[.agg #[int i64 0,int i64 0],int i64 12])/\Below w.heap.size w w':=by
 go_enter func179,ntmps179
 go_wp2_with fail
 refine(qeu _ _ _).mono ?_;rintro e a ⟨rfl,hb⟩;obtain⟨⟨c0,c1,f0,f1⟩,⟨d0,d1,j,k⟩⟩:=jdc hb
 have l:w.heap.size+1<a.heap.size:=by have:=hb.size;simp at this;omega
 go_wp2_with (go_at_call 28;refine(qef _ _).mono ?_;rintro e w' ⟨rfl,rfl⟩)
 refine bodyPost_ret (v:=.tuple #[.agg #[int i64 0,int i64 0],int i64 12]) (by simp[results,results179,go_sem,d0,d1]) rfl ⟨rfl,?_⟩
 repeat (first|(with_reducible exact qkq hb)|(with_reducible refine Below.setCell ?_ (by simp) _))
theorem qsl (lw lc now:Int) (w:World) (h:(qal lw&&qal lc)=true) (b:qal now=true) (c:¬lw<now) (d:0<=lc) (g:lc<=1099511627776) (i:¬1099511627776<lc+1):
 Calls prog 179 #[.agg #[int i64 lw,int i64 lc],int i64 now] w λe w'=>e=.returned (.tuple #[.agg #[int i64 lw,int i64 (lc+1)],int i64 0])/\Below w.heap.size w w':=by
 go_enter func179,ntmps179
 go_wp2_with fail
 refine(qeu _ _ _).mono ?_;rintro e a ⟨rfl,hb⟩;obtain⟨⟨c0,c1,f0,f1⟩,⟨d0,d1,j,k⟩⟩:=jdc hb
 have l:w.heap.size+1<a.heap.size:=by have:=hb.size;simp at this;omega
 go_wp2_with (go_at_call 28;refine(qef _ _).mono ?_;rintro e w' ⟨rfl,rfl⟩)
 refine bodyPost_ret (v:=.tuple #[.agg #[int i64 lw,int i64 (lc+1)],int i64 0]) (by simp[results,results179,go_sem,d0,d1]) rfl ⟨rfl,?_⟩
 repeat (first|(with_reducible exact qkq hb)|(with_reducible refine Below.setCell ?_ (by simp) _))
end
section
open Go.Value Go.IntKind Go.RowKit
theorem qnl {a b:Ver} {v:Bool} (h:qao a b=v) (w:World):
 Calls Tryz.prog 183 #[.agg #[int i64 a.wall,int i64 a.count,int i64 a.site,int i64 a.seq,.string a.data,.bool a.gone],.agg #[int i64 b.wall,int i64 b.count,int i64 b.site,int i64 b.seq,.string b.data,.bool b.gone]] w λe w'=>e=.returned (.bool v)/\Below w.heap.size w w':=by
 obtain⟨d,g,m,o,p,q⟩:=a;obtain⟨i,j,bs,r,s,u⟩:=b;have x:=(qag.new (w:=w) (T:=130) [int i64 d,int i64 g,int i64 m,int i64 o,.string p,.bool q] rfl).boxed (.cells #[int i64 i,int i64 j,int i64 bs,int i64 r,.string s,.bool u] 130);have y:=qag.new (w:=w.alloc (.cells #[int i64 d,int i64 g,int i64 m,int i64 o,.string p,.bool q] 130)) (T:=130) (n:=w.heap.size+1) [int i64 i,int i64 j,int i64 bs,int i64 r,.string s,.bool u] (by simp);have hb:=boxed (boxed (Below.refl _ w) (.cells #[int i64 d,int i64 g,int i64 m,int i64 o,.string p,.bool q] 130)) (.cells #[int i64 i,int i64 j,int i64 bs,int i64 r,.string s,.bool u] 130);simp only[qao]at h;obtain⟨c,z⟩:∃c,qkj d g i j=c:=⟨_,rfl⟩;rw[z]at h;have B:Hid _:=z;clear z;by_cases k:c=0
 ·rw[if_pos k]at h;subst k;have H:Hid _:=h;clear h;go_enter Tryz.func183,Tryz.ntmps183
  go_wp2_with fail
  refine(qhf d g i j _).mono ?_;rintro e C ⟨rfl,l⟩;rw[B.out];replace x:=x.later l;replace y:=y.later l;have c2:=x.cell 2 _ rfl;have d2:=y.cell 2 _ rfl
  go_wp2_with fail
  go_ret;exact⟨by rw[<-H.out];rfl,qab hb l⟩
 ·rw[if_neg k]at h;have D:(c==0)=false:=beq_eq_false_iff_ne.2 k;clear k;have H:Hid _:=h;clear h;go_enter Tryz.func183,Tryz.ntmps183
  go_wp2_with fail
  refine(qhf d g i j _).mono ?_;rintro e C ⟨rfl,l⟩;rw[B.out]
  go_wp2_with fail
  go_ret;exact⟨by rw[<-H.out];rfl,qab hb l⟩
theorem qte {tmps:Array Value} {w:World} {b:Nat} {v:Ver} {sv:Bool} (h:qag w b (qah v)) (a:tmps[6]?=some (.pointer (some ⟨b,0,none⟩))) (c:tmps[7]?=some (.bool sv)):
 (results Tryz.f130 tmps).run Tryz.prog w=.ok (.tuple #[.agg (qah v).toArray,.bool sv]) w:=by
 obtain⟨z0,d,z2,z3,z4,z5⟩:=h.c6;simp[results,Tryz.results130,go_sem,a,c,z0,d,z2,z3,z4,z5,qah]
end
section
open Go.RowKit
theorem qgy {tmps:Array Value} {w:World} {b:Nat} {v:Ver} {ev:Int} (h:qag w b (qah v)) (a:tmps[6]?=some (.pointer (some ⟨b,0,none⟩))) (c:tmps[7]?=some (.int .i64 ev)):
 (results Tryz.f91 tmps).run Tryz.prog w=.ok (.tuple #[.agg (qah v).toArray,.int .i64 ev]) w:=by
 obtain⟨z0,d,z2,z3,z4,z5⟩:=h.c6;simp[results,Tryz.results91,go_sem,a,c,z0,d,z2,z3,z4,z5,qah]
end
section
open Go.Value Go.IntKind Go.RowKit
variable {sb so:Nat} {a:Option Addr} {l:List Hd}
theorem qt7 {cap:Nat} (key a0 a1 a2 a3:Int) (w:World) (hS:w.cell? ⟨sb,so,none⟩=some (.slice a l.length cap)) (hC:jcp w a cap l) (hok:∀h∈l,qd2 h.v=true) (hl:l.length<=1000000):
 Calls Tryz.prog 130 #[.pointer (some ⟨sb,so,none⟩),int i64 key,.agg #[int i64 a0,int i64 a1,int i64 a2,int i64 a3]] w λe w'=>
  e=.returned (.tuple #[.agg (qex (qde key a0 a1 a2 a3 l)).toArray,.bool (qkm (qde key a0 a1 a2 a3 l))])/\Below w.heap.size w w':=by
 have hne:=Later.one;have HOK:Hid (∀h∈l,qd2 h.v=true):=hok;clear hok;have s:=((qa9.new w 77 a0 a1 a2 a3).boxed (.cells #[int i64 0,int i64 0,int i64 0,int i64 0,.string ⟨#[]⟩,.bool false] 130)).boxed (.cells #[int i64 0,int i64 0,int i64 0,int i64 0,.string ⟨#[]⟩,.bool false] 130);have d:=(qag.new (w:=w.alloc (.cells #[int i64 a0,int i64 a1,int i64 a2,int i64 a3] 77)) (T:=130) (n:=w.heap.size+1) [int i64 0,int i64 0,int i64 0,int i64 0,.string ⟨#[]⟩,.bool false] (by simp)).boxed (.cells #[int i64 0,int i64 0,int i64 0,int i64 0,.string ⟨#[]⟩,.bool false] 130);have c:=qag.new (w:=(w.alloc (.cells #[int i64 a0,int i64 a1,int i64 a2,int i64 a3] 77)).alloc (.cells #[int i64 0,int i64 0,int i64 0,int i64 0,.string ⟨#[]⟩,.bool false] 130)) (T:=130) (n:=w.heap.size+1+1) [int i64 0,int i64 0,int i64 0,int i64 0,.string ⟨#[]⟩,.bool false] (by simp);have hb:=boxed (boxed (boxed (Below.refl _ w) (.cells #[int i64 a0,int i64 a1,int i64 a2,int i64 a3] 77)) (.cells #[int i64 0,int i64 0,int i64 0,int i64 0,.string ⟨#[]⟩,.bool false] 130)) (.cells #[int i64 0,int i64 0,int i64 0,int i64 0,.string ⟨#[]⟩,.bool false] 130);have s0:=cell_later hb hS;clear hS;go_enter Tryz.func130,Tryz.ntmps130
 go_wp2_with fail
 obtain⟨W,hWW⟩:∃W,(((w.alloc (.cells #[int i64 a0,int i64 a1,int i64 a2,int i64 a3] 77)).alloc (.cells #[int i64 0,int i64 0,int i64 0,int i64 0,.string ⟨#[]⟩,.bool false] 130)).alloc (.cells #[int i64 0,int i64 0,int i64 0,int i64 0,.string ⟨#[]⟩,.bool false] 130))=W:=⟨_,rfl⟩;have U:qag (((w.alloc (.cells #[int i64 a0,int i64 a1,int i64 a2,int i64 a3] 77)).alloc (.cells #[int i64 0,int i64 0,int i64 0,int i64 0,.string ⟨#[]⟩,.bool false] 130)).alloc (.cells #[int i64 0,int i64 0,int i64 0,int i64 0,.string ⟨#[]⟩,.bool false] 130)) (w.heap.size+1+1) (qex (qde key a0 a1 a2 a3 (l.take 0))):=c;rw[hWW]at s d U hb ⊢;clear hWW c s0
 go_loopw [9,17] (λsv iv wr=>∃(k:Nat) (z:Int),k<=l.length/\z=k/\iv=int i64 z/\sv=.bool (qkm (qde key a0 a1 a2 a3 (l.take k)))/\qag wr (w.heap.size+1+1) (qex (qde key a0 a1 a2 a3 (l.take k)))/\qag wr (w.heap.size+1) (qah qc6)/\qa9 wr w.heap.size a0 a1 a2 a3/\Below w.heap.size w wr) (λ_ i _=>l.length-(intOf i).toNat)
 case atStart=>exact⟨0,0,by omega,rfl,rfl,rfl,U,d,s,hb⟩
 case round=>
  clear U d s hb;obtain⟨k,z,hk,hz,rfl,rfl,c,d,s,hb⟩:=hrel;by_cases D:k<l.length
  ·have h1:z<(l.length:Int):=by omega
   have h2:z.toNat=k:=by omega
   have h3:0<=z:=by omega
   have N:Hid (z=k):=hz;clear hz
   obtain⟨b,G,rfl,hcc⟩:∃b G,a=some ⟨b,G,none⟩/\∀i r u,i<l.length->(hdL (qgt l i))[r]?=some u->w.cell? ⟨b,G+(i*7+r),none⟩=some u:=by
        rcases hC.held with V|V
        ·rw[V]at D;simp at D
        ·exact V
   have J:Hid (∀i r u,i<l.length->(hdL (qgt l i))[r]?=some u->w.cell? ⟨b,G+(i*7+r),none⟩=some u):=hcc;clear hcc;obtain⟨C,I⟩:∃C,qde key a0 a1 a2 a3 (l.take k)=C:=⟨_,rfl⟩;rw[I]at c ⊢;have K:Hid (qde key a0 a1 a2 a3 (l.take k)=C):=I;clear I;obtain⟨⟨B,⟨wl,o,st,m,q,gn⟩⟩,H⟩:∃x,qgt l k=x:=⟨_,rfl⟩;have L:Hid (qgt l k=⟨B,⟨wl,o,st,m,q,gn⟩⟩):=H;have x0:wr.cell? ⟨b,G+k*7,none⟩=some (int i64 B):=cell_later hb (J.out k 0 _ D (by rw[H];rfl));have x1:wr.cell? ⟨b,G+k*7+1,none⟩=some (int i64 wl):=cell_later hb (J.out k 1 _ D (by rw[H];rfl));have x2:wr.cell? ⟨b,G+k*7+2,none⟩=some (int i64 o):=cell_later hb (J.out k 2 _ D (by rw[H];rfl));have x3:wr.cell? ⟨b,G+k*7+3,none⟩=some (int i64 st):=cell_later hb (J.out k 3 _ D (by rw[H];rfl));have x4:wr.cell? ⟨b,G+k*7+4,none⟩=some (int i64 m):=cell_later hb (J.out k 4 _ D (by rw[H];rfl));have x5:wr.cell? ⟨b,G+k*7+5,none⟩=some (.string q):=cell_later hb (J.out k 5 _ D (by rw[H];rfl));have x6:wr.cell? ⟨b,G+k*7+6,none⟩=some (.bool gn):=cell_later hb (J.out k 6 _ D (by rw[H];rfl));clear H;have X:=qmw (HOK.out (qgt l k) (by simp only[qgt,List.getD,List.getElem?_eq_getElem D,Option.getD_some];exact List.getElem_mem D));rw[L.out]at X;simp only at X;obtain⟨t0,t1⟩:=X
   have t2:st<4:=by omega
   have hat:=Later.cell (cell_later (boxed (Below.refl _ wr) (.cells #[int i64 B,int i64 wl,int i64 o,int i64 st,int i64 m,.string q,.bool gn] 185)) (qoz s t0 t1));replace c:=c.boxed (.cells #[int i64 B,int i64 wl,int i64 o,int i64 st,int i64 m,.string q,.bool gn] 185);replace d:=d.boxed (.cells #[int i64 B,int i64 wl,int i64 o,int i64 st,int i64 m,.string q,.bool gn] 185);replace s:=s.boxed (.cells #[int i64 B,int i64 wl,int i64 o,int i64 st,int i64 m,.string q,.bool gn] 185);replace hb:=boxed hb (.cells #[int i64 B,int i64 wl,int i64 o,int i64 st,int i64 m,.string q,.bool gn] 185);have F:=qag.new (w:=wr) (T:=185) [int i64 B,int i64 wl,int i64 o,int i64 st,int i64 m,.string q,.bool gn] rfl;have w0:=Later.cell (F.cell 0 _ rfl);have w1:=Later.cell (F.cell 1 _ rfl);have w2:=Later.cell (F.cell 2 _ rfl);have w3:=Later.cell (F.cell 3 _ rfl);have w4:=Later.cell (F.cell 4 _ rfl);have O:=Later.cell (F.cell 5 _ rfl);have w6:=Later.cell (F.cell 6 _ rfl);by_cases M:B=key
   ·have ek:(B==key)=true:=by simp[M]
    have R:Hid (B=key):=M;clear M;cases hh:qke a0 a1 a2 a3 ⟨wl,o,st,m,q,gn⟩
    ·have dh:decide (m<=qaq st a0 a1 a2 a3)=false:=hh;have S:Hid (qke a0 a1 a2 a3 ⟨wl,o,st,m,q,gn⟩=false):=hh;clear hh
     go_wp2_with fail
     refine qaa (by kernel_rfl) (by kernel_rfl) ?_
     repeat (go_big_quiet_step (fail))
     refine wpQuiet_nil ?_;rintro O ⟨⟨_,g⟩,rfl⟩;replace c:=c.later g;replace d:=d.later g;replace s:=s.later g;replace hb:=qab hb g;have y:=λj v (h:(hdL ⟨B,⟨wl,o,st,m,q,gn⟩⟩)[j]?=some v)=>cell_later g (F.cell j v h)
     have E:Hid (qde key a0 a1 a2 a3 (l.take (k+1))=C):=by show qde key a0 a1 a2 a3 (l.take (k+1))=C;rw[qhw D,K.out,L.out];exact qgb (λx=>by have:=x.2.1;rw[S.out]at this;cases this)
     clear g y
     go_wp2_with fail
     go_roundw
     case rel=>exact⟨k+1,z+1,by omega,by have:=N.out;omega,by go_num,by rw[E.out],by rw[E.out];exact c,d,s,hb⟩
     case measure=>simp[intOf];omega
    ·have dh:decide (m<=qaq st a0 a1 a2 a3)=true:=hh;have S:Hid (qke a0 a1 a2 a3 ⟨wl,o,st,m,q,gn⟩=true):=hh;clear hh;cases C with
     |none=>
      have sn:qkm none=false:=rfl
      go_wp2_with fail
      refine qaa (by kernel_rfl) (by kernel_rfl) ?_
      repeat (go_big_quiet_step (fail))
      refine wpQuiet_nil ?_;rintro O ⟨⟨_,g⟩,rfl⟩;replace c:=c.later g;replace d:=d.later g;replace s:=s.later g;replace hb:=qab hb g;have y:=λj v (h:(hdL ⟨B,⟨wl,o,st,m,q,gn⟩⟩)[j]?=some v)=>cell_later g (F.cell j v h)
      have E:Hid (qde key a0 a1 a2 a3 (l.take (k+1))=some ⟨wl,o,st,m,q,gn⟩):=by show qde key a0 a1 a2 a3 (l.take (k+1))=_;rw[qhw D,K.out,L.out];exact qh1 ⟨R.out,S.out,rfl⟩
      have y1:=y 1 _ rfl;have y2:=y 2 _ rfl;have y3:=y 3 _ rfl;have y4:=y 4 _ rfl;have y5:=y 5 _ rfl;have y6:=y 6 _ rfl;have b0:=c.cell 0 _ rfl;have p0:=c.free 0 (by simp[qex,qah]);have b1:=c.cell 1 _ rfl;have p1:=c.free 1 (by simp[qex,qah]);have b2:=c.cell 2 _ rfl;have p2:=c.free 2 (by simp[qex,qah]);have b3:=c.cell 3 _ rfl;have p3:=c.free 3 (by simp[qex,qah]);have b4:=c.cell 4 _ rfl;have p4:=c.free 4 (by simp[qex,qah]);have b5:=c.cell 5 _ rfl;have p5:=c.free 5 (by simp[qex,qah]);have Y:=((((((c.set 0 (int i64 wl) (by simp[qex,qah])).set 1 (int i64 o) (by simp[qex,qah])).set 2 (int i64 st) (by simp[qex,qah])).set 3 (int i64 m) (by simp[qex,qah])).set 4 (.string q) (by simp[qex,qah])).set 5 (.bool gn) (by simp[qex,qah]));have P:=((((((hb.setCell (p:=⟨w.heap.size+1+1,0,none⟩) (by show w.heap.size<=w.heap.size+1+1;omega) (int i64 wl)).setCell (p:=⟨w.heap.size+1+1,1,none⟩) (by show w.heap.size<=w.heap.size+1+1;omega) (int i64 o)).setCell (p:=⟨w.heap.size+1+1,2,none⟩) (by show w.heap.size<=w.heap.size+1+1;omega) (int i64 st)).setCell (p:=⟨w.heap.size+1+1,3,none⟩) (by show w.heap.size<=w.heap.size+1+1;omega) (int i64 m)).setCell (p:=⟨w.heap.size+1+1,4,none⟩) (by show w.heap.size<=w.heap.size+1+1;omega) (.string q)).setCell (p:=⟨w.heap.size+1+1,5,none⟩) (by show w.heap.size<=w.heap.size+1+1;omega) (.bool gn));have Z:=((((((d.far ⟨w.heap.size+1+1,0,none⟩ (int i64 wl) (by show w.heap.size+1+1≠w.heap.size+1;omega)).far ⟨w.heap.size+1+1,1,none⟩ (int i64 o) (by show w.heap.size+1+1≠w.heap.size+1;omega)).far ⟨w.heap.size+1+1,2,none⟩ (int i64 st) (by show w.heap.size+1+1≠w.heap.size+1;omega)).far ⟨w.heap.size+1+1,3,none⟩ (int i64 m) (by show w.heap.size+1+1≠w.heap.size+1;omega)).far ⟨w.heap.size+1+1,4,none⟩ (.string q) (by show w.heap.size+1+1≠w.heap.size+1;omega)).far ⟨w.heap.size+1+1,5,none⟩ (.bool gn) (by show w.heap.size+1+1≠w.heap.size+1;omega));have aa:=((((((s.far ⟨w.heap.size+1+1,0,none⟩ (int i64 wl) (by show w.heap.size+1+1≠w.heap.size;omega)).far ⟨w.heap.size+1+1,1,none⟩ (int i64 o) (by show w.heap.size+1+1≠w.heap.size;omega)).far ⟨w.heap.size+1+1,2,none⟩ (int i64 st) (by show w.heap.size+1+1≠w.heap.size;omega)).far ⟨w.heap.size+1+1,3,none⟩ (int i64 m) (by show w.heap.size+1+1≠w.heap.size;omega)).far ⟨w.heap.size+1+1,4,none⟩ (.string q) (by show w.heap.size+1+1≠w.heap.size;omega)).far ⟨w.heap.size+1+1,5,none⟩ (.bool gn) (by show w.heap.size+1+1≠w.heap.size;omega))
      clear g y hb d s c
      go_wp2_with fail
      go_roundw
      case rel=>exact⟨k+1,z+1,by omega,by have:=N.out;omega,by go_num,by rw[E.out];rfl,by rw[E.out];exact Y,Z,aa,P⟩
      case measure=>simp[intOf];omega
     |some bv=>
      have sn:qkm (some bv)=true:=rfl;have v0:=Later.cell (c.cell 0 _ rfl);have v1:=Later.cell (c.cell 1 _ rfl);have v2:=Later.cell (c.cell 2 _ rfl);have v3:=Later.cell (c.cell 3 _ rfl);have v4:=Later.cell (c.cell 4 _ rfl);have v5:=Later.cell (c.cell 5 _ rfl);cases hbf:qao bv ⟨wl,o,st,m,q,gn⟩
      ·have Q:Hid (qao bv ⟨wl,o,st,m,q,gn⟩=false):=hbf;clear hbf
       go_wp2_with fail
       refine qaa (by kernel_rfl) (by kernel_rfl) ?_
       repeat (go_big_quiet_step ((go_at_call 183;with_reducible exact qac (qnl Q.out _))))
       refine wpQuiet_nil ?_;rintro O ⟨⟨_,g⟩,rfl⟩;replace c:=c.later g;replace d:=d.later g;replace s:=s.later g;replace hb:=qab hb g;have y:=λj v (h:(hdL ⟨B,⟨wl,o,st,m,q,gn⟩⟩)[j]?=some v)=>cell_later g (F.cell j v h)
       have E:Hid (qde key a0 a1 a2 a3 (l.take (k+1))=some bv):=by show qde key a0 a1 a2 a3 (l.take (k+1))=some bv;rw[qhw D,K.out,L.out];exact qgb (λx=>by have:=x.2.2;simp only[Q.out]at this;cases this)
       clear g y
       go_wp2_with fail
       go_roundw
       case rel=>exact⟨k+1,z+1,by omega,by have:=N.out;omega,by go_num,by rw[E.out],by rw[E.out];exact c,d,s,hb⟩
       case measure=>simp[intOf];omega
      ·have Q:Hid (qao bv ⟨wl,o,st,m,q,gn⟩=true):=hbf;clear hbf
       go_wp2_with fail
       refine qaa (by kernel_rfl) (by kernel_rfl) ?_
       repeat (go_big_quiet_step ((go_at_call 183;with_reducible exact qac (qnl Q.out _))))
       refine wpQuiet_nil ?_;rintro O ⟨⟨_,g⟩,rfl⟩;replace c:=c.later g;replace d:=d.later g;replace s:=s.later g;replace hb:=qab hb g;have y:=λj v (h:(hdL ⟨B,⟨wl,o,st,m,q,gn⟩⟩)[j]?=some v)=>cell_later g (F.cell j v h)
       have E:Hid (qde key a0 a1 a2 a3 (l.take (k+1))=some ⟨wl,o,st,m,q,gn⟩):=by show qde key a0 a1 a2 a3 (l.take (k+1))=_;rw[qhw D,K.out,L.out];exact qh1 ⟨R.out,S.out,Q.out⟩
       have y1:=y 1 _ rfl;have y2:=y 2 _ rfl;have y3:=y 3 _ rfl;have y4:=y 4 _ rfl;have y5:=y 5 _ rfl;have y6:=y 6 _ rfl;have b0:=c.cell 0 _ rfl;have p0:=c.free 0 (by simp[qex,qah]);have b1:=c.cell 1 _ rfl;have p1:=c.free 1 (by simp[qex,qah]);have b2:=c.cell 2 _ rfl;have p2:=c.free 2 (by simp[qex,qah]);have b3:=c.cell 3 _ rfl;have p3:=c.free 3 (by simp[qex,qah]);have b4:=c.cell 4 _ rfl;have p4:=c.free 4 (by simp[qex,qah]);have b5:=c.cell 5 _ rfl;have p5:=c.free 5 (by simp[qex,qah]);have Y:=((((((c.set 0 (int i64 wl) (by simp[qex,qah])).set 1 (int i64 o) (by simp[qex,qah])).set 2 (int i64 st) (by simp[qex,qah])).set 3 (int i64 m) (by simp[qex,qah])).set 4 (.string q) (by simp[qex,qah])).set 5 (.bool gn) (by simp[qex,qah]));have P:=((((((hb.setCell (p:=⟨w.heap.size+1+1,0,none⟩) (by show w.heap.size<=w.heap.size+1+1;omega) (int i64 wl)).setCell (p:=⟨w.heap.size+1+1,1,none⟩) (by show w.heap.size<=w.heap.size+1+1;omega) (int i64 o)).setCell (p:=⟨w.heap.size+1+1,2,none⟩) (by show w.heap.size<=w.heap.size+1+1;omega) (int i64 st)).setCell (p:=⟨w.heap.size+1+1,3,none⟩) (by show w.heap.size<=w.heap.size+1+1;omega) (int i64 m)).setCell (p:=⟨w.heap.size+1+1,4,none⟩) (by show w.heap.size<=w.heap.size+1+1;omega) (.string q)).setCell (p:=⟨w.heap.size+1+1,5,none⟩) (by show w.heap.size<=w.heap.size+1+1;omega) (.bool gn));have Z:=((((((d.far ⟨w.heap.size+1+1,0,none⟩ (int i64 wl) (by show w.heap.size+1+1≠w.heap.size+1;omega)).far ⟨w.heap.size+1+1,1,none⟩ (int i64 o) (by show w.heap.size+1+1≠w.heap.size+1;omega)).far ⟨w.heap.size+1+1,2,none⟩ (int i64 st) (by show w.heap.size+1+1≠w.heap.size+1;omega)).far ⟨w.heap.size+1+1,3,none⟩ (int i64 m) (by show w.heap.size+1+1≠w.heap.size+1;omega)).far ⟨w.heap.size+1+1,4,none⟩ (.string q) (by show w.heap.size+1+1≠w.heap.size+1;omega)).far ⟨w.heap.size+1+1,5,none⟩ (.bool gn) (by show w.heap.size+1+1≠w.heap.size+1;omega));have aa:=((((((s.far ⟨w.heap.size+1+1,0,none⟩ (int i64 wl) (by show w.heap.size+1+1≠w.heap.size;omega)).far ⟨w.heap.size+1+1,1,none⟩ (int i64 o) (by show w.heap.size+1+1≠w.heap.size;omega)).far ⟨w.heap.size+1+1,2,none⟩ (int i64 st) (by show w.heap.size+1+1≠w.heap.size;omega)).far ⟨w.heap.size+1+1,3,none⟩ (int i64 m) (by show w.heap.size+1+1≠w.heap.size;omega)).far ⟨w.heap.size+1+1,4,none⟩ (.string q) (by show w.heap.size+1+1≠w.heap.size;omega)).far ⟨w.heap.size+1+1,5,none⟩ (.bool gn) (by show w.heap.size+1+1≠w.heap.size;omega))
       clear g y hb d s c
       go_wp2_with fail
       go_roundw
       case rel=>exact⟨k+1,z+1,by omega,by have:=N.out;omega,by go_num,by rw[E.out];rfl,by rw[E.out];exact Y,Z,aa,P⟩
       case measure=>simp[intOf];omega
   ·have ek:(B==key)=false:=beq_eq_false_iff_ne.2 M;have R:Hid (¬B=key):=M;clear M
    go_wp2_with fail
    refine qaa (by kernel_rfl) (by kernel_rfl) ?_
    repeat (go_big_quiet_step (fail))
    refine wpQuiet_nil ?_;rintro O ⟨⟨_,g⟩,rfl⟩;replace c:=c.later g;replace d:=d.later g;replace s:=s.later g;replace hb:=qab hb g;have y:=λj v (h:(hdL ⟨B,⟨wl,o,st,m,q,gn⟩⟩)[j]?=some v)=>cell_later g (F.cell j v h)
    have E:Hid (qde key a0 a1 a2 a3 (l.take (k+1))=C):=by show qde key a0 a1 a2 a3 (l.take (k+1))=C;rw[qhw D,K.out,L.out];exact qgb (λx=>R.out x.1)
    clear g y
    go_wp2_with fail
    go_roundw
    case rel=>exact⟨k+1,z+1,by omega,by have:=N.out;omega,by go_num,by rw[E.out],by rw[E.out];exact c,d,s,hb⟩
    case measure=>simp[intOf];omega
  ·have e:k=l.length:=by omega
   obtain⟨C,I⟩:∃C,qde key a0 a1 a2 a3 (l.take k)=C:=⟨_,rfl⟩
   have K:Hid (qde key a0 a1 a2 a3 l=C):=by show qde key a0 a1 a2 a3 l=C;rw[<-I,e,List.take_length]
   rw[I,qmh]at c;rw[I];clear I e;obtain⟨v,hv⟩:∃v,C.getD qc6=v:=⟨_,rfl⟩;rw[hv]at c;have HV:Hid (C.getD qc6=v):=hv;clear hv;obtain⟨sv,hsv⟩:∃sv,qkm C=sv:=⟨_,rfl⟩;rw[hsv];have HSV:Hid (qkm C=sv):=hsv;clear hsv;have b0:=c.cell 0 _ rfl;have r0:=d.cell 0 _ rfl;have p0:=d.free 0 (by simp[qah]);have b1:=c.cell 1 _ rfl;have r1:=d.cell 1 _ rfl;have p1:=d.free 1 (by simp[qah]);have b2:=c.cell 2 _ rfl;have r2:=d.cell 2 _ rfl;have p2:=d.free 2 (by simp[qah]);have b3:=c.cell 3 _ rfl;have r3:=d.cell 3 _ rfl;have p3:=d.free 3 (by simp[qah]);have b4:=c.cell 4 _ rfl;have r4:=d.cell 4 _ rfl;have p4:=d.free 4 (by simp[qah]);have b5:=c.cell 5 _ rfl;have r5:=d.cell 5 _ rfl;have p5:=d.free 5 (by simp[qah]);have RZ:=((((((d.set 0 (int i64 v.wall) (by simp[qah])).set 1 (int i64 v.count) (by simp[qah])).set 2 (int i64 v.site) (by simp[qah])).set 3 (int i64 v.seq) (by simp[qah])).set 4 (.string v.data) (by simp[qah])).set 5 (.bool v.gone) (by simp[qah]));have P:=((((((hb.setCell (p:=⟨w.heap.size+1,0,none⟩) (by show w.heap.size<=w.heap.size+1;omega) (int i64 v.wall)).setCell (p:=⟨w.heap.size+1,1,none⟩) (by show w.heap.size<=w.heap.size+1;omega) (int i64 v.count)).setCell (p:=⟨w.heap.size+1,2,none⟩) (by show w.heap.size<=w.heap.size+1;omega) (int i64 v.site)).setCell (p:=⟨w.heap.size+1,3,none⟩) (by show w.heap.size<=w.heap.size+1;omega) (int i64 v.seq)).setCell (p:=⟨w.heap.size+1,4,none⟩) (by show w.heap.size<=w.heap.size+1;omega) (.string v.data)).setCell (p:=⟨w.heap.size+1,5,none⟩) (by show w.heap.size<=w.heap.size+1;omega) (.bool v.gone));clear c d s hb
   go_wp2_with fail
   refine bodyPost_ret (qte (v:=v) RZ rfl rfl) rfl ⟨?_,P⟩;rw[K.out,qmh,HV.out,HSV.out]
theorem qu6 {cap:Nat} (key a0 a1 a2 a3:Int) (w:World) (L:w.cell? ⟨sb,so,none⟩=some (.slice a l.length cap)) (M:jcp w a cap l) (N:∀h∈l,qd2 h.v=true) (P:l.length<=1000000):
 Calls Tryz.prog 91 #[.pointer (some ⟨sb,so,none⟩),int i64 key,.agg #[int i64 a0,int i64 a1,int i64 a2,int i64 a3]] w λe w'=>
  e=.returned (.tuple #[.agg (qah (qdu key a0 a1 a2 a3 l).1).toArray,int i64 (qdu key a0 a1 a2 a3 l).2])/\Below w.heap.size w w':=by
 have Q:Hid (∀h∈l,qd2 h.v=true):=N;clear N;have m:=(qa9.new w 77 a0 a1 a2 a3).boxed (.cells #[int i64 0,int i64 0,int i64 0,int i64 0,.string ⟨#[]⟩,.bool false] 130);have b:qag ((w.alloc (.cells #[int i64 a0,int i64 a1,int i64 a2,int i64 a3] 77)).alloc (.cells #[int i64 0,int i64 0,int i64 0,int i64 0,.string ⟨#[]⟩,.bool false] 130)) (w.heap.size+1) (qah qc6):=qag.new (w:=w.alloc (.cells #[int i64 a0,int i64 a1,int i64 a2,int i64 a3] 77)) (T:=130) (n:=w.heap.size+1) [int i64 0,int i64 0,int i64 0,int i64 0,.string ⟨#[]⟩,.bool false] (by simp);have hb:=boxed (boxed (Below.refl _ w) (.cells #[int i64 a0,int i64 a1,int i64 a2,int i64 a3] 77)) (.cells #[int i64 0,int i64 0,int i64 0,int i64 0,.string ⟨#[]⟩,.bool false] 130);have s0:=cell_later hb L;have x:=M.later hb;clear L M;cases hk:inB key 0 7
 ·have o:Hid (qdu key a0 a1 a2 a3 l=(qc6,2)):=by show qdu key a0 a1 a2 a3 l=(qc6,2);unfold qdu;rw[hk];rfl
  have z:Hid (inB key 0 7=false):=hk;clear hk;go_enter Tryz.func91,Tryz.ntmps91
  go_wp2_with fail
  refine(qax z.out _).mono ?_;rintro e R ⟨rfl,c⟩;replace b:=b.later c;replace hb:=qab hb c;clear c m s0 x;have B:=b.cell 0 _ rfl;have p0:=b.free 0 (by simp[qah]);have C:=b.cell 1 _ rfl;have p1:=b.free 1 (by simp[qah]);have D:=b.cell 2 _ rfl;have p2:=b.free 2 (by simp[qah]);have E:=b.cell 3 _ rfl;have p3:=b.free 3 (by simp[qah]);have F:=b.cell 4 _ rfl;have G:=b.free 4 (by simp[qah]);have H:=b.cell 5 _ rfl;have I:=b.free 5 (by simp[qah]);have q:=((((((b.set 0 (int i64 0) (by simp[qah])).set 1 (int i64 0) (by simp[qah])).set 2 (int i64 0) (by simp[qah])).set 3 (int i64 0) (by simp[qah])).set 4 (.string ⟨#[]⟩) (by simp[qah])).set 5 (.bool false) (by simp[qah]));have r:=((((((hb.setCell (p:=⟨w.heap.size+1,0,none⟩) (by show w.heap.size<=w.heap.size+1;omega) (int i64 0)).setCell (p:=⟨w.heap.size+1,1,none⟩) (by show w.heap.size<=w.heap.size+1;omega) (int i64 0)).setCell (p:=⟨w.heap.size+1,2,none⟩) (by show w.heap.size<=w.heap.size+1;omega) (int i64 0)).setCell (p:=⟨w.heap.size+1,3,none⟩) (by show w.heap.size<=w.heap.size+1;omega) (int i64 0)).setCell (p:=⟨w.heap.size+1,4,none⟩) (by show w.heap.size<=w.heap.size+1;omega) (.string ⟨#[]⟩)).setCell (p:=⟨w.heap.size+1,5,none⟩) (by show w.heap.size<=w.heap.size+1;omega) (.bool false))
  go_wp2_with fail
  refine bodyPost_ret (qgy (v:=qc6) q rfl rfl) rfl ⟨?_,r⟩;rw[o.out]
 ·have z:Hid (inB key 0 7=true):=hk
  have O:Hid (qdu key a0 a1 a2 a3 l=qog (qde key a0 a1 a2 a3 l)):=by show qdu key a0 a1 a2 a3 l=_;unfold qdu;rw[hk];rfl
  clear hk;go_enter Tryz.func91,Tryz.ntmps91
  go_wp2_with fail
  refine(qax z.out _).mono ?_;rintro e R ⟨rfl,c⟩;replace b:=b.later c;replace m:=m.later c;replace hb:=qab hb c;replace s0:=cell_later c s0;replace x:=x.later c;clear c;have c0:=m.c0;have c1:=m.c1;have c2:=m.c2;have c3:=m.c3
  go_wp2_with fail
  refine(qt7 key a0 a1 a2 a3 _ s0 x Q.out P).mono ?_;rintro e w2 ⟨rfl,u⟩;clear c0 c1 c2 c3 m s0 x;obtain⟨y,J⟩:∃y,qde key a0 a1 a2 a3 l=y:=⟨_,rfl⟩
  have K:Hid (qdu key a0 a1 a2 a3 l=qog y):=by show qdu key a0 a1 a2 a3 l=_;rw[O.out,J]
  rw[J,qmh];clear J O;cases y with
  |none=>
   have o:Hid (qdu key a0 a1 a2 a3 l=(qc6,8)):=K.out;have sn:qkm none=false:=rfl;show _;rw[show qah ((none:Option Ver).getD qc6)=[int i64 0,int i64 0,int i64 0,int i64 0,.string ⟨#[]⟩,.bool false]from rfl];replace b:=(b.later u).boxed (.cells #[int i64 0,int i64 0,int i64 0,int i64 0,.string ⟨#[]⟩,.bool false] 130);replace hb:=boxed (qab hb u) (.cells #[int i64 0,int i64 0,int i64 0,int i64 0,.string ⟨#[]⟩,.bool false] 130);clear u;have B:=b.cell 0 _ rfl;have p0:=b.free 0 (by simp[qah]);have C:=b.cell 1 _ rfl;have p1:=b.free 1 (by simp[qah]);have D:=b.cell 2 _ rfl;have p2:=b.free 2 (by simp[qah]);have E:=b.cell 3 _ rfl;have p3:=b.free 3 (by simp[qah]);have F:=b.cell 4 _ rfl;have G:=b.free 4 (by simp[qah]);have H:=b.cell 5 _ rfl;have I:=b.free 5 (by simp[qah]);have q:=((((((b.set 0 (int i64 0) (by simp[qah])).set 1 (int i64 0) (by simp[qah])).set 2 (int i64 0) (by simp[qah])).set 3 (int i64 0) (by simp[qah])).set 4 (.string ⟨#[]⟩) (by simp[qah])).set 5 (.bool false) (by simp[qah]));have r:=((((((hb.setCell (p:=⟨w.heap.size+1,0,none⟩) (by show w.heap.size<=w.heap.size+1;omega) (int i64 0)).setCell (p:=⟨w.heap.size+1,1,none⟩) (by show w.heap.size<=w.heap.size+1;omega) (int i64 0)).setCell (p:=⟨w.heap.size+1,2,none⟩) (by show w.heap.size<=w.heap.size+1;omega) (int i64 0)).setCell (p:=⟨w.heap.size+1,3,none⟩) (by show w.heap.size<=w.heap.size+1;omega) (int i64 0)).setCell (p:=⟨w.heap.size+1,4,none⟩) (by show w.heap.size<=w.heap.size+1;omega) (.string ⟨#[]⟩)).setCell (p:=⟨w.heap.size+1,5,none⟩) (by show w.heap.size<=w.heap.size+1;omega) (.bool false))
   go_wp2_with fail
   refine bodyPost_ret (qgy (v:=qc6) q rfl rfl) rfl ⟨?_,r⟩;rw[o.out]
  |some v=>
   obtain⟨d,g,i,j,k,s⟩:=v;have sn:qkm (some (⟨d,g,i,j,k,s⟩:Ver))=true:=rfl;rw[show qah ((some (⟨d,g,i,j,k,s⟩:Ver)).getD qc6)=[int i64 d,int i64 g,int i64 i,int i64 j,.string k,.bool s]from rfl];replace b:=(b.later u).boxed (.cells #[int i64 d,int i64 g,int i64 i,int i64 j,.string k,.bool s] 130);have S:=qag.new (w:=w2) (T:=130) [int i64 d,int i64 g,int i64 i,int i64 j,.string k,.bool s] rfl;replace hb:=boxed (qab hb u) (.cells #[int i64 d,int i64 g,int i64 i,int i64 j,.string k,.bool s] 130);clear u;obtain⟨U,V,W,X,Y,Z⟩:=S.c6;cases s
   ·have o:Hid (qdu key a0 a1 a2 a3 l=(⟨d,g,i,j,k,false⟩,0)):=K.out;have B:=b.cell 0 _ rfl;have p0:=b.free 0 (by simp[qah]);have C:=b.cell 1 _ rfl;have p1:=b.free 1 (by simp[qah]);have D:=b.cell 2 _ rfl;have p2:=b.free 2 (by simp[qah]);have E:=b.cell 3 _ rfl;have p3:=b.free 3 (by simp[qah]);have F:=b.cell 4 _ rfl;have G:=b.free 4 (by simp[qah]);have H:=b.cell 5 _ rfl;have I:=b.free 5 (by simp[qah]);have q:=((((((b.set 0 (int i64 d) (by simp[qah])).set 1 (int i64 g) (by simp[qah])).set 2 (int i64 i) (by simp[qah])).set 3 (int i64 j) (by simp[qah])).set 4 (.string k) (by simp[qah])).set 5 (.bool false) (by simp[qah]));have r:=((((((hb.setCell (p:=⟨w.heap.size+1,0,none⟩) (by show w.heap.size<=w.heap.size+1;omega) (int i64 d)).setCell (p:=⟨w.heap.size+1,1,none⟩) (by show w.heap.size<=w.heap.size+1;omega) (int i64 g)).setCell (p:=⟨w.heap.size+1,2,none⟩) (by show w.heap.size<=w.heap.size+1;omega) (int i64 i)).setCell (p:=⟨w.heap.size+1,3,none⟩) (by show w.heap.size<=w.heap.size+1;omega) (int i64 j)).setCell (p:=⟨w.heap.size+1,4,none⟩) (by show w.heap.size<=w.heap.size+1;omega) (.string k)).setCell (p:=⟨w.heap.size+1,5,none⟩) (by show w.heap.size<=w.heap.size+1;omega) (.bool false))
    go_wp2_with fail
    refine bodyPost_ret (qgy (v:=⟨d,g,i,j,k,false⟩) q rfl rfl) rfl ⟨?_,r⟩;rw[o.out]
   ·have o:Hid (qdu key a0 a1 a2 a3 l=(qc6,8)):=K.out;have B:=b.cell 0 _ rfl;have p0:=b.free 0 (by simp[qah]);have C:=b.cell 1 _ rfl;have p1:=b.free 1 (by simp[qah]);have D:=b.cell 2 _ rfl;have p2:=b.free 2 (by simp[qah]);have E:=b.cell 3 _ rfl;have p3:=b.free 3 (by simp[qah]);have F:=b.cell 4 _ rfl;have G:=b.free 4 (by simp[qah]);have H:=b.cell 5 _ rfl;have I:=b.free 5 (by simp[qah]);have q:=((((((b.set 0 (int i64 0) (by simp[qah])).set 1 (int i64 0) (by simp[qah])).set 2 (int i64 0) (by simp[qah])).set 3 (int i64 0) (by simp[qah])).set 4 (.string ⟨#[]⟩) (by simp[qah])).set 5 (.bool false) (by simp[qah]));have r:=((((((hb.setCell (p:=⟨w.heap.size+1,0,none⟩) (by show w.heap.size<=w.heap.size+1;omega) (int i64 0)).setCell (p:=⟨w.heap.size+1,1,none⟩) (by show w.heap.size<=w.heap.size+1;omega) (int i64 0)).setCell (p:=⟨w.heap.size+1,2,none⟩) (by show w.heap.size<=w.heap.size+1;omega) (int i64 0)).setCell (p:=⟨w.heap.size+1,3,none⟩) (by show w.heap.size<=w.heap.size+1;omega) (int i64 0)).setCell (p:=⟨w.heap.size+1,4,none⟩) (by show w.heap.size<=w.heap.size+1;omega) (.string ⟨#[]⟩)).setCell (p:=⟨w.heap.size+1,5,none⟩) (by show w.heap.size<=w.heap.size+1;omega) (.bool false))
    go_wp2_with fail
    refine bodyPost_ret (qgy (v:=qc6) q rfl rfl) rfl ⟨?_,r⟩;rw[o.out]
end
open Tryz Go.RowKit
theorem jc7 {r:List Int} (h:r.length=2):∃u v,r=[u,v]:=by
 match r,h with
 |[u,v],_=>exact⟨u,v,rfl⟩
section
variable {a:Option Addr} {cap:Nat} {l:List ByteArray}
theorem qfx (i:∀x∈l,x.size<=1000000) (w:World) (g:Gl w) (h:qiv w a cap l):
 Calls prog 95 #[.slice a l.length cap] w λe w'=>Below w.heap.size w w'/\((∃v,Hid (qb5 1 l=some [v])/\e=.returned (.int .i64 v))\/(Hid (qb5 1 l=none)/\e=qf0 3)):=by
 have j:=qjs (m:=1) (by decide) i w g h
 have k:Hid (∀r,qb5 1 l=some r->r.length=1):=λr c=>by
  unfold qb5 at c;split at c
  ·rename_i q;rw[qdi c,q]
  ·cases c
 clear h g i;go_enter func95,ntmps95
 go_wp2_with fail
 refine j.mono ?_;rintro e o d;cases hn:qb5 1 l with
 |none=>
  rw[hn]at d;obtain⟨rfl,hb⟩:e=qf0 3/\_:=d;exact⟨rfl,hb,.inr ⟨hn,rfl⟩⟩
 |some r=>
  rw[hn]at d;obtain⟨v,rfl⟩:∃v,r=[v]:=List.length_eq_one_iff.1 (k.out r hn);obtain⟨b,rfl,c,hb⟩:=d;have c0:=c.cell 0 _ rfl;have n:Hid _:=hn;clear hn
  go_wp2
  go_ret;exact⟨hb,.inl ⟨v,n,rfl⟩⟩
theorem qle (i:∀x∈l,x.size<=1000000) (w:World) (g:Gl w) (h:qiv w a cap l):
 Calls prog 97 #[.slice a l.length cap] w λe w'=>Below w.heap.size w w'/\((∃u v,Hid (qb5 2 l=some [u,v])/\e=.returned (.tuple #[.int .i64 u,.int .i64 v]))\/(Hid (qb5 2 l=none)/\e=qf0 3)):=by
 have j:=qjs (m:=2) (by decide) i w g h
 have k:Hid (∀r,qb5 2 l=some r->r.length=2):=λr c=>by
  unfold qb5 at c;split at c
  ·rename_i q;rw[qdi c,q]
  ·cases c
 clear h g i;go_enter func97,ntmps97
 go_wp2_with fail
 refine j.mono ?_;rintro e o d;cases hn:qb5 2 l with
 |none=>
  rw[hn]at d;obtain⟨rfl,hb⟩:e=qf0 3/\_:=d;exact⟨rfl,hb,.inr ⟨hn,rfl⟩⟩
 |some r=>
  rw[hn]at d;obtain⟨u,v,rfl⟩:∃u v,r=[u,v]:=jc7 (k.out r hn);obtain⟨b,rfl,c,hb⟩:=d;have c0:=c.cell 0 _ rfl;have c1:=c.cell 1 _ rfl;have n:Hid _:=hn;clear hn
  go_wp2
  go_region
  go_wp2
  go_ret2;exact⟨hb.drew,.inl ⟨u,v,n,rfl⟩⟩
theorem qr5 (i:∀x∈l,x.size<=1000000) (w:World) (g:Gl w) (h:qiv w a cap l):
 Calls prog 99 #[.slice a l.length cap] w λe w'=>Below w.heap.size w w'/\((Hid (qb5 0 l=some [])/\e=.returned (.tuple #[]))\/(Hid (qb5 0 l=none)/\e=qf0 3)):=by
 have j:=qjs (m:=0) (by decide) i w g h
 have k:Hid (∀r,qb5 0 l=some r->r.length=0):=λr c=>by
  unfold qb5 at c;split at c
  ·rename_i q;rw[qdi c,q]
  ·cases c
 clear h g i;go_enter func99,ntmps99
 go_wp2_with fail
 refine j.mono ?_;rintro e o d;cases hn:qb5 0 l with
 |none=>
  rw[hn]at d;obtain⟨rfl,hb⟩:e=qf0 3/\_:=d;exact⟨rfl,hb,.inr ⟨hn,rfl⟩⟩
 |some r=>
  rw[hn]at d;obtain rfl:r=[]:=List.eq_nil_of_length_eq_zero (k.out r hn);obtain⟨b,rfl,c,hb⟩:=d;have n:Hid _:=hn;clear hn
  go_wp2
  go_end0;exact⟨hb,.inl ⟨n,rfl⟩⟩
end
theorem qcp (n:Int) (w:World) (g:Gl w):Calls prog 66 #[qbq n] w λe w'=>Below w.heap.size w w'/\((n=0/\e=.returned (.tuple #[]))\/(n≠0/\e=qf0 n)):=by
 unfold qbq;by_cases h:n=0
 ·rw[if_pos h];go_enter func66,ntmps66
  go_wp2
  go_end0;exact⟨Below.refl _ _,.inl ⟨h,rfl⟩⟩
 ·rw[if_neg h];have T:=q1b n w g.et;have b:Hid _:=h;clear h;go_enter func66,ntmps66
  go_wp2_with fail
  refine T.mono ?_;rintro e c ⟨rfl,hb⟩
  go_wp2
  exact⟨rfl,hb,.inr ⟨b.out,rfl⟩⟩
theorem qbo (a b:List UInt8):bya a++bya b=bya (a++b):=by
 apply ByteArray.ext
 simp[bya]
theorem quf (n:Int) (b:wfI n) (w:World) (g:Gl w):Calls prog 7 #[.int .i64 n] w λe w'=>e=.returned (.string (bya (qpn n)))/\Below w.heap.size w w':=by
 have hs:=Lib.itoa_length_le n b.1 b.2;have T:=qvb n b w g;have c:=λw=>qnh (P:=prog) ⟨#[101,114,114,111,114,32]⟩ (bya (Lib.itoa n)) (by show 6+(Lib.itoa n).toArray.size<=_;simp;omega) w;go_enter func7,ntmps7
 go_wp2_with fail
 refine T.mono ?_;rintro e d ⟨rfl,hb⟩
 go_wp2
 go_ret;refine⟨?_,hb⟩;have:=qbo [101,114,114,111,114,32] (Lib.itoa n);rw[show qpn n=[101,114,114,111,114,32]++Lib.itoa n from rfl,<-this];rfl
def qij (x:Int):ByteArray:=bya (Lib.itoa x)
theorem qsp (l:List Int):Lib.join ((l.map qij).map (·.data.toList)) [32]=qbc l:=by
 unfold qbc;rw[List.map_map]
 congr 1
theorem qim (n:Nat):∀(l:List (List UInt8)),(∀x∈l,x.length<=n)->(Lib.join l [32]).length<=l.length*(n+1)
 |[],_=>by simp[Lib.join,List.intercalate]
 |[x],h=>by
  have:=h x (by simp);simp[Lib.join,List.intercalate];omega
 |x::y::l,h=>by
  have d:=h x (by simp);have b:=qim n (y::l) (λz c=>h z (List.mem_cons_of_mem _ c))
  have e:Lib.join (x::y::l) [32]=x++[32]++Lib.join (y::l) [32]:=by simp[Lib.join,List.intercalate]
  rw[e];simp only[List.length_append,List.length_cons,List.length_nil]at b ⊢;rw[Nat.succ_mul];omega
variable {l:List Int}
theorem qb7 (h:∀x∈l,wfI x):(qbc l).length<=l.length*22:=by
 have:=qim 21 (l.map Lib.itoa) (λy c=>by
  obtain⟨x,b,rfl⟩:=List.mem_map.1 c
  exact Lib.itoa_length_le x (h x b).1 (h x b).2)
 simpa[qbc]using this
theorem qjp {w w':World} {B n N:Nat} {T:TypeId} {v:Value} {xs:List Value} (h:w.ownsRow B T N v n xs) (hb:Below w.heap.size w w'):w'.ownsRow B T N v n xs:=qad h (λk e=>hb.block k (h.lt k e).2)
theorem qdz {b o cap:Nat} (n:l≠[]) (B:l.length<=8) (I:∀x∈l,wfI x) (w:World) (g:Gl w) (hb:b<w.heap.size) (d:∀(j:Nat) x,l[j]?=some x->w.cell? ⟨b,o+j,none⟩=some (.int .i64 x)):
 Calls prog 102 #[.slice (some ⟨b,o,none⟩) l.length cap] w λe w'=>e=.returned (.string (bya (qbc l)))/\Below w.heap.size w w':=by
 obtain⟨i0,hi,U,V,W⟩:=info_parts qmq;have r:Hid (Gl w/\(∀x∈l,wfI x)/\b<w.heap.size/\(∀(j:Nat) x,l[j]?=some x->w.cell? ⟨b,o+j,none⟩=some (.int .i64 x))/\l≠[]/\l.length<=8):=⟨g,I,hb,d,n,B⟩;clear g I hb d n B;go_enter func102,ntmps102
 go_wp2
 go_loopw [3,8] (λK iv wr=>∃(k:Nat) (z:Int),k<=l.length/\z=k/\iv=.int .i64 z/\Hid (wr.ownsRow w.heap.size 9 1 K k ((l.take k).map (λx=>Value.string (qij x)))/\Below w.heap.size w wr)) (λ_ iv _=>l.length-(intOf iv).toNat)
 case atStart=>exact⟨0,0,Nat.zero_le _,rfl,rfl,World.ownsRow_nil w _ _ _,Below.refl _ _⟩
 case round=>
  rename_i K _;obtain⟨k,z,hk,G,rfl,c⟩:=hrel;have X:Hid _:=G;by_cases L:k<l.length
  ·have g1:z<(l.length:Int):=by omega
   have g2:0<=z:=by omega
   have g3:z.toNat=k:=by omega
   have g4:z<8:=by have:=r.out.2.2.2.2.2;omega
   obtain⟨x,C⟩:∃x,l[k]?=some x:=⟨_,List.getElem?_eq_getElem L⟩;obtain⟨D,s,hb,d,_⟩:=r.out;have c0:wr.cell? ⟨b,o+k,none⟩=some (.int .i64 x):=(c.out.2.cell (p:=⟨b,o+k,none⟩) hb).trans (d k x C);have T:=qvb x (s x (List.mem_of_getElem? C)) wr (D.later c.out.2)
   have M:Hid ((l.take (k+1)).map (λx=>Value.string (qij x))=(l.take k).map (λx=>Value.string (qij x))++[.string (qij x)]):=by
        show _=_;rw[List.take_add_one,C];simp
   clear D s hb d G C
   go_wp2_with fail
   refine T.mono ?_;rintro e w2 ⟨rfl,v⟩;have N:=boxed (Below.refl _ w2) (.cells #[.string (qij x)] 9);have H:=qjp (qjp c.out.1 v) N;have m:Hid (Below w.heap.size w w2):=qab c.out.2 v
   go_wp2_with (at_builtin;refine wpList_append_lies _ rfl _ _ 42 rfl w.heap.size 9 i0 (.string ⟨#[]⟩) 1 16 underlying42 hi U V W rfl (by decide) _ _ _ rfl H ⟨w2.heap.size,0,none⟩ 1 1 [.string (qij x)] rfl rfl (World.news_of_block (heap_alloc_new w2 (.cells #[.string (qij x)] 9)))?c2 (by decide)?c3 ?c4 ?c5 _ rfl ?_)
   case c2=>intro u O;simp at O;subst O;rfl
   case c3=>have:=r.out.2.2.2.2.2;unfold maxLen;omega
   case c4=>have:=r.out.2.2.2.2.2;omega
   case c5=>have:=m.out.size;simp;omega
   intro E F P Q R Y Z
   have aa:Hid (P.ownsRow w.heap.size 9 1 (.slice (some ⟨E,0,none⟩) (k+1) F) (k+1) ((l.take (k+1)).map (λx=>Value.string (qij x)))/\Below w.heap.size w P):=by
        refine⟨by rw[M.out];simpa[List.map_take]using Q,?_⟩;exact(m.out.alloc m.out.size _).grown R (by have:=m.out.size;simp;omega) (λq e=>(H.lt q e).1)
   clear Q R Y Z H M N v
   go_wp2
   go_roundw
   case rel=>exact⟨k+1,z+1,L,by have:=X.out;omega,by go_num,aa.out⟩
   case measure=>simp[intOf];omega
  ·have g1:¬z<(l.length:Int):=by omega
   have ab:k=l.length:=by omega
   subst ab;rw[List.take_length]at c;obtain⟨D,s,hb,d,n,B⟩:=r.out;have ac:0<l.length:=List.length_pos_iff.2 n;obtain⟨E,F,rfl,hB,ad⟩:=c.out.1.form ac;have S:=c.out.1.cells (g:=E) rfl
   have ae:l.length<=F:=by
        rcases c.out.1.2 with ⟨h,_⟩|⟨g',c',cur,hv,_,_,hnc,_⟩
        ·cases h
        ·cases hv;exact hnc
   have J:=Tryz.strings_Join E 0 F (l.map qij) ⟨#[32]⟩ wr (λj y i=>by
        have:=S j (.string y) (by rw[List.getElem?_map]at i ⊢;cases hq:l[j]?with
         |none=>rw[hq]at i;cases i
         |some q=>rw[hq]at i;injection i with i;subst i;rfl)
        rcases Nat.eq_zero_or_pos j with rfl|hj
        ·simpa[Addr.add]using this
        ·simpa[Addr.add,Nat.ne_of_gt hj]using this) ad (by simp;omega) (by simpa using ae) (by
         rw[show (⟨#[32]⟩:ByteArray).data.toList=[32]from rfl,qsp];have:=qb7 s
         omega)
   rw[List.length_map,show (⟨#[32]⟩:ByteArray).data.toList=[32]from rfl,qsp]at J;have m:Hid _:=c.out.2;clear D s hb d n B S G c
   go_wp2_with fail
   refine J.mono ?_;rintro e w2 ⟨rfl,v⟩
   go_wp2
   go_ret;exact⟨rfl,qab m.out v⟩
end Go.Proofs.YtoanjdndmlffdaaGreatDoor
