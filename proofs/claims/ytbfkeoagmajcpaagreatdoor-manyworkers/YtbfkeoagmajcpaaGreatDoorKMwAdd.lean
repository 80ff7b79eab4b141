import Derived.Test.YtbfkeoagmajcpaaGreatDoorSiteF
set_option maxHeartbeats 8000000
set_option maxRecDepth 100000
set_option linter.defProp false
set_option linter.unusedSectionVars false
set_option linter.unusedSimpArgs false
set_option linter.unusedVariables false
namespace Go.Proofs.YtbfkeoagmajcpaaGreatDoor
open Go.Conc Go.ConcN Go.RowKit Go.Conc.Lib Go.ConcR.Gen Go.ConcN.Gen
open Go.ConcR (KK wgBlock WgAt stA smA rd wr mk Payload Aside2 DC0)
variable {P:Pq} {E:Env} {Post:Vl->Wv} {main:Bool} {γ γ₁:Gam} {w w0:Wl} {g g':Gn} {G1:Grp}
variable [Payload] {L:WgLink} {C:Fm} {D:Act} {A:Array Oper} {F:Nat} {B:List Nat} {J:List Item} {cs:List Fm} {j:Nat}
def jma (H:WgLib P L) (ht:E.tyWg=L.tWg) (t:γ₁.ph=.adds G1 j) (hj:j<16) (ho:¬γ₁.own G1.Wg) (hd:¬γ₁.rd G1.Wg) {I:Wv} (u:∀a b,q9 E γ a b->I a->I b) (O:∀w,I w->WgL E G1.Wg w)
 (Q:∀{g g':Gn} {w:Wl},g.status=.running->(∀w,stepG P true g w=.go g' w #[evM .disable])->I w->q7 P E Post true γ₁ g' w->q7 P E Post true γ g w) (y:I w)
 (l:∀R w',q9 E γ w R->q9 E γ₁ R w'->q7 P E Post true (γ₁.to (.ready G1 j)) (G (C.at (D.put ((A[F]?).bind (·.dst)) (.tuple #[])) (.inRegion A B::J)) cs) w'):
 q7 P E Post true γ (G ((base L.add).at ⟨#[PP G1.Wg,U 1]++Array.replicate ((addFn L).ntmps-2) undef,[]⟩ [.code (body_add L)]) (C.at D (.inRegion A (F::B)::J)::cs)) w:=by
 lib_facts
 have d:q9 E γ w w:=q9.refl _ _ _;refine q7.by (m:=12) ?_;simp only[body_add,addFn,Option.getD_some];walk_nrm;refine Wz d q9.trans λ_ d=>?_
 refine mz (λn T=>?_);replace d:=d.trans T;clear T;refine Q rfl (λ_=>stepG_mark0 .disable oi rfl rfl oX rfl H.f_disable (x_disable_n L) (x_disable_b L) (x_disable_x L) (x_disable_f L)) (u _ _ d y) ?_;replace l:=λw'=>l _ w' d;have K:=O _ (u _ _ d y);clear d y u O Q
 have M:γ₁.ph.grp=some G1:=by rw[t];rfl
 have W:γ₁.ph.wt=false:=by rw[t];rfl
 have d:q9 E γ₁ n n:=q9.refl _ _ _;refine q7.by (m:=40) ?_;walk_nrm;refine Wz d q9.trans λ_ d=>?_
 u_bub q9.trans d
 refine Wz d q9.trans λ_ d=>?_
 u_call H.f_uAdd (nm_uAdd L) uAddFn q9.trans d
 refine Wz d q9.trans λ_ d=>?_
 refine mz (λw₂ X=>?_);replace d:=d.trans X;clear X;refine q7.mk rfl λN Y=>.addA rfl t λv hv q=>?_;replace d:=d.trans Y;clear Y;have f:WgAt L.tWg G1.Wg N (v*KK) 0:=ht▸q;have s:∀x:Int,q9 E γ₁ n (N.setCell (stQ G1.Wg) (.int .u64 x)):=λx=>d.trans (jmc M W ho hd q x);have e:∀{a b c:Wl},q9 E γ₁ a b->q9 E (γ₁.to (.added G1 j)) b c->q9 E γ₁ a c:=λh r=>h.trans (r.back (by rw[M];rfl) W);have Z:∀{i:Wl},q9 E γ₁ n i->q7 P E Post true (γ₁.to (.ready G1 j)) (G (C.at (D.put ((A[F]?).bind (·.dst)) (.tuple #[])) (.inRegion A B::J)) cs) i:=λh=>l _ h;have lv:∀{i:Wl},q9 E γ₁ n i->WgL E G1.Wg i:=λh=>h.wg G1 M K;obtain rfl|hvp:=Nat.eq_zero_or_pos v
 .have z:(((0:Nat):Int)+1)*KQ=KK:=by simp[KQ,KK]
  rw[z];replace f:WgAt L.tWg G1.Wg N 0 0:=by simpa using f
  have e0:IntKind.u64.wrap (0+4294967296)=KK:=oj;refine⟨_,(stepG_add_atomic rfl rfl oX rfl H.f_addU64 (x_addU64_n L) (x_addU64_b L) (x_addU64_x L) .u64 (x_addU64_f L) rfl rfl f.cellSt (f.thaw 0)).trans (by rw[e0];rfl),rfl,?_⟩;replace d:=s KK;clear q f s K l;simp only[KK]at d ⊢;refine q7.by (m:=110) ?_;walk_nrm;refine Wz d e λ_ d=>?_
  u_leave1 H.f_uAdd e d
  refine Wz d e λ_ d=>?_
  u_conv H.underlying_tPU32 H.room_tU32 (lv d).cellB.choose_spec e d
  refine mz (λi h₅=>?_);replace d:=e d h₅;clear h₅;refine q7.said (m:=.read (AD G1.Wg 1)) (a:=AD G1.Wg 1) (by rfl) (.inl rfl) rfl rfl (λ_=>stepG_markAt .read oi rfl rfl oX rfl H.f_raceRead (x_raceRead_n L) (x_raceRead_b L) (x_raceRead_x L) (x_raceRead_f L) (ad:=AD G1.Wg 1) oQ) ?_;refine q7.by (m:=80) ?_;walk_nrm;refine Wz d e λ_ d=>?_
  refine mz (λw₆ o=>?_);replace d:=e d o;clear o;refine q7.enA (G1:=G1) (j:=j) rfl rfl (λ_=>stepG_unwind_entry (v:=.tuple #[]) (evs:=#[mk .enable]) rfl H.f_enable (x_enable_n L) (x_enable_b L) (x_enable_x L) (x_enable_f L) (by simp[Extern.Race.none_]) (by simp[mk]) (by simp[mk])) ?_;refine q7.leave0 rfl rfl H.f_add rfl ?_;exact Z d
 obtain⟨V,p⟩:∃V:Int,V=(v:Int)+1:=⟨_,rfl⟩;obtain⟨S,k⟩:∃S:Int,S=V*KK:=⟨_,rfl⟩;have eS:IntKind.u64.wrap ((v:Int)*KK+4294967296)=S:=by rw[IntKind.wrap_u64,k,p];simp only[KK];omega
 have eQ:((v:Int)+1)*KQ=S:=by rw[k,p];rfl
 rw[eQ];have a1:S/4294967296=V:=by rw[k];simp only[KK];omega
 have b1:bits .and .u64 S 2147483648=0:=by rw[k,p];have:=st_flag (v+1) 0 oe oe;simpa[KK]using this
 have b2:bits .and .u64 S 2147483647=0:=by rw[k,p];have:=st_waiters (v+1) 0 oe oe;simpa[KK]using this
 have c1:IntKind.i32.wrap V=V:=by rw[IntKind.wrap_i32];omega
 have hV1:1<V:=oe;have hV2:V<2147483648:=oe;have q1:(V==1)=false:=ou;have q2:decide (V=1)=false:=decide_eq_false oe;have q3:decide (V<0)=false:=decide_eq_false oe;have q4:decide (0<V)=true:=decide_eq_true oe;have q5:(V==0)=false:=ou;have q6:decide (V=0)=false:=decide_eq_false oe;refine⟨_,(stepG_add_atomic rfl rfl oX rfl H.f_addU64 (x_addU64_n L) (x_addU64_b L) (x_addU64_x L) .u64 (x_addU64_f L) rfl rfl f.cellSt (f.thaw 0)).trans (by rw[eS];rfl),rfl,?_⟩;replace d:=s S;clear q f s K l k p eS eQ;refine q7.by (m:=110) ?_;walk_nrm;refine Wz d e λ_ d=>?_
 u_leave1 H.f_uAdd e d
 refine Wz d e λ_ d=>?_
 refine mz (λw₆ o=>?_);replace d:=e d o;clear o;refine q7.enA (G1:=G1) (j:=j) rfl rfl (λ_=>stepG_unwind_entry (v:=.tuple #[]) (evs:=#[mk .enable]) rfl H.f_enable (x_enable_n L) (x_enable_b L) (x_enable_x L) (x_enable_f L) (by simp[Extern.Race.none_]) (by simp[mk]) (by simp[mk])) ?_;refine q7.leave0 rfl rfl H.f_add rfl ?_;exact Z d
end Go.Proofs.YtbfkeoagmajcpaaGreatDoor
