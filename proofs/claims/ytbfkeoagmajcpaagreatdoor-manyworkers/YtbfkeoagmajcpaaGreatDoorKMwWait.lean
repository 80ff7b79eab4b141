import Derived.Test.YtbfkeoagmajcpaaGreatDoorSiteF
set_option maxHeartbeats 8000000
set_option maxRecDepth 100000
set_option linter.defProp false
set_option linter.unusedSectionVars false
set_option linter.unusedSimpArgs false
set_option linter.unusedVariables false
namespace Go.Proofs.YtbfkeoagmajcpaaGreatDoor
open Go.Conc Go.ConcN Go.RowKit Go.Conc.Lib Go.ConcR.Gen Go.ConcN.Gen
open Go.ConcR (KK wgBlock WgAt stA smA rd wr mk Payload Aside2 DC0)
variable {P:Pq} {E:Env} {Post:Vl->Wv} {main:Bool} {γ:Gam} {w w0:Wl} {g g':Gn} {G1:Grp}
def WgQ.inj {c:Nat} {u v:Nat} (a:WgQ E c w (u*KQ) 0) (b:WgQ E c w (v*KQ) 0):u=v:=by
 unfold WgQ at a b;rw[a]at b;simp[KQ]at b;omega
def jgw (E:Env) (Wg N:Nat) (w:Wl):Prop:=∃u:Nat,u<=N/\WgQ E Wg w (u*KQ) 0
def jgw.rely {N:Nat} {a:Wl} (h:jgw E G1.Wg N w) (b:γ.ph.wt=true) (c:γ.ph.grp=some G1) (r:q9 E γ w a):jgw E G1.Wg N a:=by
 obtain⟨u,e,q⟩:=h;obtain⟨v,f,d⟩:=r.down b G1 c u q;exact⟨v,oe,d⟩
def q7.enW (a:γ.ph=.over G1) (b:g.status=.running) (c:∀w,stepG P true g w=.go g' w #[evM .enable]) (k:q7 P E Post true (γ.to (.heard G1)) g' w):q7 P E Post true γ g w:=
 q7.mk b λd e=>.enW rfl a (c d) k.run (k.rely (e.to oB))
def q7.disW (c:γ.ph=.shut G1) (d:g.status=.running) (e:∀w,stepG P true g w=.go g' w #[evM .disable]) (k:∀a,q9 E γ w a->q7 P E Post true (γ.to (.waits G1)) g' a):q7 P E Post true γ g w:=
 q7.mk d λa b=>.disW rfl c (e a) (k a b).run (k a b)
def q7.acq (b:γ.ph=.heard G1) (c:g.status=.running) (d:∀w,stepG P true g w=.go g' w #[evM (.acquire (stQ G1.Wg))]) (e:g'.status=.running) (k:∀a,q9 E γ w a->jkl E G1 a->q7 P E Post true (γ.back G1) g' a):q7 P E Post true γ g w:=
 q7.mk c λa h=>.acq rfl b λf=>⟨g',d a,e,k a h f⟩
def js0 (i:γ.ph.grp=some G1) (j:γ.ph.wt=false) (k:¬γ.own G1.Wg) (l:¬γ.rd G1.Wg) {d f:Int} (m:WgQ E G1.Wg w d f) (v:Int):q9 E γ w (w.setCell (smQ G1.Wg) (.int .u32 v)):=by
 have c:=Chg.cell (w:=w) (a:=smQ G1.Wg) (v:=.int .u32 v) (S:=λb=>b=G1.Wg) rfl;have o:∀b,b≠G1.Wg->(w.setCell (smQ G1.Wg) (.int .u32 v)).heap[b]?=w.heap[b]?:=λb n=>by
  by_cases h:b<w.heap.size
  .exact c.out b h n
  have:(w.setCell (smQ G1.Wg) (.int .u32 v)).heap.size=w.heap.size:=y5 _ _ _;rw[mQ oe,mQ oe]
 exact⟨λb h=>o b λe=>k (e▸h),λb h=>o b λe=>l (e▸h),c.os,c.output,λG h _=>by
  rw[i]at h;cases h;exact⟨d,v,Go.ConcR.WgAt.setSm (show WgAt E.tyWg G1.Wg w d f from m) v⟩,λq=>by rw[j]at q;cases q⟩
variable [Payload] {L:WgLink} {C:Fm} {D:Act} {A:Array Oper} {F:Nat} {B:List Nat} {I:List Item} {cs:List Fm}
section
def jlf (H:WgLib P L) (K:E.tyWg=L.tWg) (hp:γ.ph=.shut G1) (hW:G1.W<=16) (ho:¬γ.own G1.Wg) (hd:¬γ.rd G1.Wg) (hl0:WgL E G1.Wg w0) (J:∀U w',q9 E γ w0 U->jkl E G1 U->q9 E (γ.back G1) U w'->q7 P E Post true (γ.back G1) (G (C.at (D.put ((A[F]?).bind (·.dst)) (.tuple #[])) (.inRegion A B::I)) cs) w') (N:Nat) (ih:∀(T:Av) (w:Wl),T.size=84->T[0]?=some (PP G1.Wg)->q9 E γ w0 w->(∃u,u<N/\WgQ E G1.Wg w ((u:Nat)*KQ) 0)->q7 P E Post true (γ.to (.waits G1)) (G ((base L.wait).at ⟨T,[]⟩ [.code (L7 L),.inLoop (L7 L),.inBlock 0]) (C.at D (.inRegion A (F::B)::I)::cs)) w)
 (T:Av) (w:Wl) (hT84:T.size=84) (t0:T[0]?=some (PP G1.Wg)) (c:q9 E γ w0 w) (hN:N=16\/jgw E G1.Wg N w):q7 P E Post true (γ.to (.waits G1)) (G ((base L.wait).at ⟨T,[]⟩ [.code (L7 L),.inLoop (L7 L),.inBlock 0]) (C.at D (.inRegion A (F::B)::I)::cs)) w:=by
 lib_facts
 have M:γ.ph.grp=some G1:=by rw[hp];rfl
 have V:γ.ph.wt=false:=by rw[hp];rfl
 have O:∀{z:Wl},q9 E γ w0 z->WgL E G1.Wg z:=λh=>h.wg G1 M hl0;obtain⟨v0,v1,v2,v3,v4,v5,v6,v7,v8,v9,v10,v11,v12,v13,v14,v15,v16,v17,v18,v19,v20,v21,v22,v23,v24,v25,v26,v27,v28,v29,v30,v31,v32,v33,v34,v35,v36,v37,v38,v39,v40,v41,v42,v43,v44,v45,v46,v47,v48,v49,v50,v51,v52,v53,v54,v55,v56,v57,v58,v59,v60,v61,v62,v63,v64,v65,v66,v67,v68,v69,v70,v71,v72,v73,v74,v75,v76,v77,v78,v79,v80,v81,v82,v83,rfl⟩:=array84 T hT84;simp only[List.getElem?_toArray,List.getElem?_cons_zero,Option.some.injEq]at t0;subst t0;clear hT84;simp only[L7,body_wait,waitFn,Option.getD_some];replace c:q9 E γ w0 w/\(N=16\/jgw E G1.Wg N w):=⟨c,hN⟩;clear hN;have i:∀{a b:Wl},q9 E γ w0 a/\(N=16\/jgw E G1.Wg N a)->q9 E (γ.to (.waits G1)) a b->q9 E γ w0 b/\(N=16\/jgw E G1.Wg N b):=λh r=>⟨h.1.trans (r.back (by rw[M];rfl) V),h.2.imp id λq=>q.rely (γ:=γ.to (.waits G1)) rfl rfl r⟩;refine q7.by (m:=60) ?_
 refine Fz @i c λ_ c=>?_
 u_call H.f_uLoad (nm_uLoad L) uLoadFn i c
 refine Fz @i c λ_ c=>?_
 refine mz (λw₂ Q=>?_);replace c:=i c Q;clear Q;refine q7.mk rfl λX h₃=>.loadW rfl rfl λv hv l=>?_;replace c:=i c h₃;clear h₃
 have hvN:v<=N:=by
  obtain e|⟨u,hu,q⟩:=c.2
  .omega
  have:=l.inj q;omega
 replace c:=c.1;clear i;have j:WgAt L.tWg G1.Wg X (v*KK) 0:=K▸l;have d:∀{ph:Ph} {a b:Wl},ph.grp=some G1->q9 E γ w0 a->q9 E (γ.to ph) a b->q9 E γ w0 b:=λe h r=>h.trans (r.back (by rw[M];exact e) V);obtain rfl|hvp:=Nat.eq_zero_or_pos v
 ·
  replace j:WgAt L.tWg G1.Wg X 0 0:=by simpa using j
  refine⟨_,stepG_load_atomic (v:=0) rfl rfl oX rfl H.f_loadU64 (x_loadU64_n L) (x_loadU64_b L) (x_loadU64_x L) .u64 (x_loadU64_f L) rfl j.cellSt,rfl,λ_=>?_,λh=>absurd rfl h⟩;clear l j hvN ih;refine q7.by (m:=80) ?_;walk_nrm;refine Wz c (d (ph:=.over G1) rfl) λ_ c=>?_
  u_leave1 H.f_uLoad (d (ph:=.over G1) rfl) c
  refine Wz c (d (ph:=.over G1) rfl) λ_ c=>?_
  refine mz (λz o=>?_);replace c:=d (ph:=.over G1) rfl c o;clear o;refine q7.enW (G1:=G1) rfl rfl (λ_=>stepG_mark0 .enable oi rfl rfl oX rfl H.f_enable (x_enable_n L) (x_enable_b L) (x_enable_x L) (x_enable_f L)) ?_;refine q7.by (m:=20) ?_;walk_nrm;refine Wz c (d (ph:=.heard G1) rfl) λ_ c=>?_
  u_conv H.underlying_tWgP H.room_tWg (O c).cellA.choose_spec (d (ph:=.heard G1) rfl) c
  refine mz (λw₆ p=>?_);replace c:=d (ph:=.heard G1) rfl c p;clear p;refine q7.acq (G1:=G1) rfl rfl (λ_=>stepG_markAt .acquire oi rfl rfl oX rfl H.f_acquire (x_acquire_n L) (x_acquire_b L) (x_acquire_x L) (x_acquire_f L) (by simp[Act.eval,stQ])) rfl λs t full=>?_;replace J:=λw'=>J _ w' (d (ph:=.heard G1) rfl c t) full;clear t c O d;have c:q9 E (γ.back G1) s s:=q9.refl _ _ _;refine q7.by (m:=40) ?_
  walk_nrm;refine Wz c q9.trans λ_ c=>?_
  u_leave0 H.f_wait q9.trans c
  exact mz λ_ h=>J _ (c.trans h)
 obtain⟨S,x⟩:∃S:Int,(v:Int)*KK=S:=⟨_,rfl⟩;have a1:S/4294967296=(v:Int):=by rw[<-x];simp only[KK];omega
 have b1:bits .and .u64 S 2147483648=0:=by rw[<-x];have:=st_flag v 0 oe oe;simpa[KK]using this
 have b2:bits .and .u64 S 2147483647=0:=by rw[<-x];have:=st_waiters v 0 oe oe;simpa[KK]using this
 have c1:IntKind.i32.wrap (v:Int)=(v:Int):=by rw[IntKind.wrap_i32];omega
 have U:IntKind.u64.wrap (S+1)=S+1:=by rw[IntKind.wrap_u64,<-x];simp only[KK];omega
 have q3:decide ((v:Int)<0)=false:=decide_eq_false oe;have q4:decide (0<(v:Int))=true:=decide_eq_true oe;have q5:((v:Int)==0)=false:=ou;have q6:decide ((v:Int)=0)=false:=decide_eq_false oe;rw[x]at j;refine⟨_,stepG_load_atomic (v:=S) rfl rfl oX rfl H.f_loadU64 (x_loadU64_n L) (x_loadU64_b L) (x_loadU64_x L) .u64 (x_loadU64_f L) rfl j.cellSt,rfl,λh0=>absurd h0 oe,λ_=>?_⟩;replace c:q9 E γ w0 X/\jgw E G1.Wg v X:=⟨c,v,mC _,l⟩;clear l j;have f:∀{a b:Wl},q9 E γ w0 a/\jgw E G1.Wg v a->q9 E (γ.to (.seen G1 v)) a b->q9 E γ w0 b/\jgw E G1.Wg v b:=λh r=>⟨d rfl h.1 r,h.2.rely (γ:=γ.to (.seen G1 v)) rfl rfl r⟩;refine q7.by (m:=100) ?_
 walk_nrm;refine Fz @f c λ_ c=>?_
 u_leave1 H.f_uLoad f c
 refine Fz @f c λ_ c=>?_
 u_call H.f_uCas (nm_uCas L) uCasFn f c
 refine Fz @f c λ_ c=>?_
 refine mz (λw₂ Q=>?_);replace c:=f c Q;clear Q;refine q7.mk rfl λY R=>.casW rfl rfl λy hv' l=>⟨λe=>?_,λe=>?_⟩
 ·
  subst e;replace c:=(f c R).1;clear R ih f;have j:WgAt L.tWg G1.Wg Y S 0:=x▸K▸l;have eQ:(y:Int)*KQ+1=S+1:=by rw[<-x];rfl
  rw[eQ];refine⟨_,(stepG_cas_hit (v:=S) (n:=S+1) rfl rfl oX rfl H.f_casU64 (x_casU64_n L) (x_casU64_b L) (x_casU64_x L) .u64 (x_casU64_f L) rfl rfl rfl j.cellSt (j.thaw 0)).trans (by rfl),rfl,?_⟩;replace c:=c.trans (jmc M V ho hd l (S+1));clear l j;refine q7.by (m:=80) ?_;walk_nrm;refine Wz c (d (ph:=.sema G1) rfl) λ_ c=>?_
  u_leave1 H.f_uCas (d (ph:=.sema G1) rfl) c
  refine Wz c (d (ph:=.sema G1) rfl) λ_ c=>?_
  u_conv H.underlying_tPU32 H.room_tU32 (O c).cellB.choose_spec (d (ph:=.sema G1) rfl) c
  refine mz (λz o=>?_);replace c:=d (ph:=.sema G1) rfl c o;clear o;refine q7.said (m:=.write (AD G1.Wg 1)) (a:=AD G1.Wg 1) (by rfl) (.inr rfl) rfl rfl (λ_=>stepG_markAt .write oi rfl rfl oX rfl H.f_raceWrite (x_raceWrite_n L) (x_raceWrite_b L) (x_raceWrite_x L) (x_raceWrite_f L) (ad:=AD G1.Wg 1) oQ) ?_;refine q7.by (m:=60) ?_;walk_nrm;refine Wz c (d (ph:=.sema G1) rfl) λ_ c=>?_
  refine mz (λw₆ p=>?_);replace c:=d (ph:=.sema G1) rfl c p;clear p;refine q7.mk rfl λs t=>.semW rfl rfl rfl (λst Z=>stepG_semacquire_wait rfl rfl rfl H.f_semacquire (x_semacquire_n L) (x_semacquire_b L) (x_semacquire_x L) (x_semacquire_f L) (by simp[Act.eval,smA]) (show WgAt E.tyWg G1.Wg s st 0 from Z).cellSm) λhf=>?_;replace c:=d (ph:=.sema G1) rfl c t;clear t;have hf1:WgAt L.tWg G1.Wg s 0 1:=K▸hf;refine⟨_,(stepG_semacquire (n:=1) rfl rfl oX rfl H.f_semacquire (x_semacquire_n L) (x_semacquire_b L) (x_semacquire_x L) (x_semacquire_f L) (by simp[Act.eval,smA]) hf1.cellSm oX (hf1.thaw 1)).trans (by rfl),rfl,?_⟩;replace c:=c.trans (js0 M V ho hd hf 0);clear hf hf1;refine q7.by (m:=60) ?_
  walk_nrm;refine Wz c (d (ph:=.sem4 G1) rfl) λ_ c=>?_
  u_call H.f_uLoad (nm_uLoad L) uLoadFn (d (ph:=.sem4 G1) rfl) c
  refine Wz c (d (ph:=.sem4 G1) rfl) λ_ c=>?_
  refine mz (λw₈ h₈=>?_);replace c:=d (ph:=.sem4 G1) rfl c h₈;clear h₈;refine q7.mk rfl λw₉ h₉=>.load4 rfl rfl λZ=>?_;replace c:=d (ph:=.sem4 G1) rfl c h₉;clear h₉;have hq1:WgAt L.tWg G1.Wg w₉ 0 0:=K▸Z;refine⟨_,stepG_load_atomic (v:=0) rfl rfl oX rfl H.f_loadU64 (x_loadU64_n L) (x_loadU64_b L) (x_loadU64_x L) .u64 (x_loadU64_f L) rfl hq1.cellSt,rfl,?_⟩;clear Z hq1;refine q7.by (m:=80) ?_
  walk_nrm;refine Wz c (d (ph:=.over G1) rfl) λ_ c=>?_
  u_leave1 H.f_uLoad (d (ph:=.over G1) rfl) c
  refine Wz c (d (ph:=.over G1) rfl) λ_ c=>?_
  refine mz (λz o=>?_);replace c:=d (ph:=.over G1) rfl c o;clear o;refine q7.enW (G1:=G1) rfl rfl (λ_=>stepG_mark0 .enable oi rfl rfl oX rfl H.f_enable (x_enable_n L) (x_enable_b L) (x_enable_x L) (x_enable_f L)) ?_;refine q7.by (m:=20) ?_;walk_nrm;refine Wz c (d (ph:=.heard G1) rfl) λ_ c=>?_
  u_conv H.underlying_tWgP H.room_tWg (O c).cellA.choose_spec (d (ph:=.heard G1) rfl) c
  refine mz (λw₆ p=>?_);replace c:=d (ph:=.heard G1) rfl c p;clear p;refine q7.acq (G1:=G1) rfl rfl (λ_=>stepG_markAt .acquire oi rfl rfl oX rfl H.f_acquire (x_acquire_n L) (x_acquire_b L) (x_acquire_x L) (x_acquire_f L) (by simp[Act.eval,stQ])) rfl λs t full=>?_;replace J:=λw'=>J _ w' (d (ph:=.heard G1) rfl c t) full;clear t c O d;have c:q9 E (γ.back G1) s s:=q9.refl _ _ _;refine q7.by (m:=40) ?_
  walk_nrm;refine Wz c q9.trans λ_ c=>?_
  u_leave0 H.f_wait q9.trans c
  exact mz λ_ h=>J _ (c.trans h)
 have hlt:y<v:=by
  obtain⟨u,hu,q⟩:=(f c R).2;have:=l.inj q;omega
 replace c:=(f c R).1;clear R f;have j:WgAt L.tWg G1.Wg Y (y*KK) 0:=K▸l;refine⟨_,stepG_cas_miss (v:=(y:Int)*KK) (old:=S) (n:=S+1) rfl rfl oX rfl H.f_casU64 (x_casU64_n L) (x_casU64_b L) (x_casU64_x L) .u64 (x_casU64_f L) rfl rfl rfl j.cellSt (j.thaw 0) (by rw[<-x];simp only[KK];omega),rfl,?_⟩;replace c:q9 E γ w0 Y/\jgw E G1.Wg y Y:=⟨c,y,mC _,l⟩;clear l j;have k:∀{a b:Wl},q9 E γ w0 a/\jgw E G1.Wg y a->q9 E (γ.to (.waits G1)) a b->q9 E γ w0 b/\jgw E G1.Wg y b:=λh r=>⟨d rfl h.1 r,h.2.rely (γ:=γ.to (.waits G1)) rfl rfl r⟩;refine q7.by (m:=60) ?_
 walk_nrm;refine Fz @k c λ_ c=>?_
 u_leave1 H.f_uCas k c
 refine Fz @k c λ_ c=>?_
 u_c stepG_inLoop k c
 refine mz (λz o=>?_);replace c:=k c o;obtain⟨u,hu,q⟩:=c.2;exact ih _ z rfl rfl c.1 ⟨u,oe,q⟩
end
end Go.Proofs.YtbfkeoagmajcpaaGreatDoor
