import Derived.Test.YtoanjdndmlffdaaGreatDoorSiteG
set_option maxHeartbeats 16000000
set_option maxRecDepth 1000000
namespace Go.Proofs.YtoanjdndmlffdaaGreatDoor
open Go.RowKit
noncomputable def q7x:Code:=((Tryz.f84.body.bind (qa0 26)).getD .skip)
theorem qgv {w w':World} {p:Addr} (a:Below w.heap.size w w') (h:w.frozen? p=false) (b:p.block<w.heap.size):w'.frozen? p=false:=by rw[a.frozen b];exact h
theorem qvg {b:Nat} {z:Int} {i:Nat} {m o p:Nat} {waits:List TxM} {N O P Q S T V W X Y Z aa ab ac ad ae af ag ah ai aj ak al am an ao ap aq ar au av aw ax ay az aA aB aC aD aE aF aG aH aI aJ aK aL aM aN aO aP aQ aR aS aT aU aV aW aX aY aZ a0 a1 a2 a3 a4 a5 a6 a7 a8 a9 ba bb bc bd be bf bg bh bi bj bk bl bm bn bo bp bq br bs bt bu bv bw bx bz bA bB bC bD bE bF bG bH bI bJ bK bL bM bN bO bP bQ bR bS bT bU bV bW bX bY bZ b0 b1 b2 b3 b4 b5 b6 b7 b8 b9 ca cb cc cd ce cf cg ch ci cj ck cl cm cn co cp cq cr cs ct cu cv cw cx cy cz cA cB cC cD cE cF cG cH cI cJ cK cL cM cN cO y175 y176 y177 y178 y179 y180 y181 y182 y183 y184 y185 y186 y187 y188 y189 y190 y191 y192 y193 cP cQ cR:Value} (a:World) (r:Hid (qdy a (some ⟨m,o,none⟩) p waits)) (s:Hid (waits.length<=1000)) (q:Hid (z=i/\i<waits.length))
 (t:a.cell? ⟨b,8,none⟩=some (.slice (some ⟨m,o,none⟩) waits.length p)) (D:a.frozen? ⟨b,8,none⟩=false) (R:Act->World->Prop)
 (hR:∀(u175 u176 u177 u178 u179 u180 u181 u182 u183 u184 u185 u186 u187 u188 u189 u190 u191 u192 u193:Value) (d:World) (e c2 E:Nat),Below a.heap.size a d->a.heap.size<=e->e<d.heap.size->E=(waits.take i++waits.drop (i+1)).length->d.ownsRow 0 102 9 (.slice (some ⟨e,0,none⟩) E c2) E (zw (waits.take i++waits.drop (i+1)))->R ⟨List.toArray ((.pointer (some ⟨b,0,none⟩))::N::O::P::Q::S::T::V::(.int .i64 z)::W::X::Y::Z::aa::ab::ac::ad::ae::af::ag::ah::ai::aj::ak::al::am::an::ao::ap::aq::ar::au::av::aw::ax::ay::az::aA::aB::aC::aD::aE::aF::aG::aH::aI::aJ::aK::aL::aM::aN::aO::aP::aQ::aR::aS::aT::aU::aV::aW::aX::aY::aZ::a0::a1::a2::a3::a4::a5::a6::a7::a8::a9::ba::bb::bc::bd::be::bf::bg::bh::bi::bj::bk::bl::bm::bn::bo::bp::bq::br::bs::bt::bu::bv::bw::bx::bz::bA::bB::bC::bD::bE::bF::bG::bH::bI::bJ::bK::bL::bM::bN::bO::bP::bQ::bR::bS::bT::bU::bV::bW::bX::bY::bZ::b0::b1::b2::b3::b4::b5::b6::b7::b8::b9::ca::cb::cc::cd::ce::cf::cg::ch::ci::cj::ck::cl::cm::cn::co::cp::cq::cr::cs::ct::cu::cv::cw::cx::cy::cz::cA::cB::cC::cD::cE::cF::cG::cH::cI::cJ::cK::cL::cM::cN::cO::u175::u176::u177::u178::u179::u180::u181::u182::u183::u184::u185::u186::u187::u188::u189::u190::u191::u192::u193::cP::cQ::cR::[]),[]⟩ (d.setCell ⟨b,8,none⟩ (.slice (some ⟨e,0,none⟩) E c2))):
 Code.wp Tryz.prog q7x (Exit.then R (λ_ _ _=>False)) ⟨List.toArray ((.pointer (some ⟨b,0,none⟩))::N::O::P::Q::S::T::V::(.int .i64 z)::W::X::Y::Z::aa::ab::ac::ad::ae::af::ag::ah::ai::aj::ak::al::am::an::ao::ap::aq::ar::au::av::aw::ax::ay::az::aA::aB::aC::aD::aE::aF::aG::aH::aI::aJ::aK::aL::aM::aN::aO::aP::aQ::aR::aS::aT::aU::aV::aW::aX::aY::aZ::a0::a1::a2::a3::a4::a5::a6::a7::a8::a9::ba::bb::bc::bd::be::bf::bg::bh::bi::bj::bk::bl::bm::bn::bo::bp::bq::br::bs::bt::bu::bv::bw::bx::bz::bA::bB::bC::bD::bE::bF::bG::bH::bI::bJ::bK::bL::bM::bN::bO::bP::bQ::bR::bS::bT::bU::bV::bW::bX::bY::bZ::b0::b1::b2::b3::b4::b5::b6::b7::b8::b9::ca::cb::cc::cd::ce::cf::cg::ch::ci::cj::ck::cl::cm::cn::co::cp::cq::cr::cs::ct::cu::cv::cw::cx::cy::cz::cA::cB::cC::cD::cE::cF::cG::cH::cI::cJ::cK::cL::cM::cN::cO::y175::y176::y177::y178::y179::y180::y181::y182::y183::y184::y185::y186::y187::y188::y189::y190::y191::y192::y193::cP::cQ::cR::[]),[]⟩ a:=by
 have u:(⟨b,8,none⟩:Addr).block<a.heap.size:=jcr _ _ t;have l5':b<a.heap.size:=u;have hvl:=r.out.len;have hvc:=r.out.cap
 have z0:0<=z:=by have:=q.out;omega
 have z1:z.toNat=i:=by have:=q.out;omega
 have z2:z<(waits.length:Int):=by have:=q.out;omega
 have z3:z<=(waits.length:Int):=by omega
 have z4:(z+1)<=(waits.length:Int):=by omega
 have z5:0<=z+1:=by omega
 have z6:(z+1).toNat=i+1:=by omega
 have z7:z<=(p:Int):=by omega
 have hlen:=s.out
 have hwz:IntKind.i64.wrap (z+1)=z+1:=by unfold IntKind.wrap;simp[IntKind.signed,IntKind.bits];omega
 have HR:Hid _:=hR
 conv=>arg 2;whnf
 by_cases hvz:p=i+1
 ·subst hvz
  have z8:z<=(i:Int)+1:=by omega
  go_region_law (first
   |(refine vt _ rfl (.tmp 176) (.tmp 182) rfl (g:=a.heap.size) (n:=0) (cap:=0) (xs:=[]) (by simp[Act.eval,Act.put]) (qh4 a 102 rfl) (sa:=some ⟨m,o,none⟩) (c:=i+1) (l:=waits.take i) (by simp[Act.eval,Act.put]<;>omega) ((r.out.take i (by have:=q.out;omega)).later (by repeat (first|(with_reducible assumption)|(with_reducible exact jcc _ _)|(with_reducible refine boxed ?_ _)|(with_reducible refine jc6 ?_)))) (by have:=s.out;simp;omega) ?_
     intro v c1_ w F G H I;have x:Hid (a.heap.size<=v/\v<w.heap.size):=⟨by simp at H;omega,I⟩;have f:Below a.heap.size a w:=jd0 (by repeat (first|(with_reducible assumption)|(with_reducible exact jcc _ _)|(with_reducible refine boxed ?_ _)|(with_reducible refine jc6 ?_))) G (by simp<;>omega) (λj h=>by simp at h;omega);have c86:=cell_later f t
     have f86:=qgv f D u)
   |(refine vt _ rfl (.tmp 183) (.tmp 190) rfl (by simp[Act.eval,Act.put]) F (sa:=some ⟨m,o,none⟩) (c:=0) (l:=waits.drop (i+1)) (by simp[Act.eval,Act.put]<;>omega) (⟨by simp;omega,by omega,.inl (jdw (by omega))⟩) (by have:=s.out;simp;omega) ?_
     intro e y d B J eg7 K;have k:Below a.heap.size a d:=jd0 f J f.size (λj h=>by have:=x.out;simp at h;omega);have C:Hid (a.heap.size<=e/\e<d.heap.size):=⟨by have:=x.out;have:=f.size;omega,K⟩;have c87:=cell_later k t
     have f87:=qgv k D u))
  all_goals
   refine HR.out _ _ _ _ _ _ _ _ _ _ _ _ _ _ _ _ _ _ _ d e y _ k C.out.1 C.out.2 ?_ ?_
   ·simp<;>omega
   ·rw[jda,<-qjs]at B
    have L:∀n,n=0+(waits.take i).length+(waits.drop (i+1)).length->d.ownsRow 0 102 9 (.slice (some ⟨e,0,none⟩) n y) n (zw (waits.take i++waits.drop (i+1))):=λn M=>by subst M;exact B
    exact L _ (by simp<;>omega)
 ·skip
  go_region_law (first
   |(refine vt _ rfl (.tmp 176) (.tmp 182) rfl (g:=a.heap.size) (n:=0) (cap:=0) (xs:=[]) (by simp[Act.eval,Act.put]) (qh4 a 102 rfl) (sa:=some ⟨m,o,none⟩) (c:=p) (l:=waits.take i) (by simp[Act.eval,Act.put]<;>omega) ((r.out.take i (by have:=q.out;omega)).later (by repeat (first|(with_reducible assumption)|(with_reducible exact jcc _ _)|(with_reducible refine boxed ?_ _)|(with_reducible refine jc6 ?_)))) (by have:=s.out;simp;omega) ?_
     intro v c1_ w F G H I;have x:Hid (a.heap.size<=v/\v<w.heap.size):=⟨by simp at H;omega,I⟩;have f:Below a.heap.size a w:=jd0 (by repeat (first|(with_reducible assumption)|(with_reducible exact jcc _ _)|(with_reducible refine boxed ?_ _)|(with_reducible refine jc6 ?_))) G (by simp<;>omega) (λj h=>by simp at h;omega);have c86:=cell_later f t
     have f86:=qgv f D u)
   |(refine vt _ rfl (.tmp 183) (.tmp 190) rfl (by simp[Act.eval,Act.put]) F (sa:=some ⟨m,o+(i+1)*9,none⟩) (c:=p-(i+1)) (l:=waits.drop (i+1)) (by simp[Act.eval,Act.put]<;>omega) ((r.out.drop (i+1) (by have:=q.out;omega)).later f) (by have:=s.out;simp;omega) ?_
     intro e y d B J eg7 K;have k:Below a.heap.size a d:=jd0 f J f.size (λj h=>by have:=x.out;simp at h;omega);have C:Hid (a.heap.size<=e/\e<d.heap.size):=⟨by have:=x.out;have:=f.size;omega,K⟩;have c87:=cell_later k t
     have f87:=qgv k D u))
  all_goals
   refine HR.out _ _ _ _ _ _ _ _ _ _ _ _ _ _ _ _ _ _ _ d e y _ k C.out.1 C.out.2 ?_ ?_
   ·simp<;>omega
   ·rw[jda,<-qjs]at B
    have L:∀n,n=0+(waits.take i).length+(waits.drop (i+1)).length->d.ownsRow 0 102 9 (.slice (some ⟨e,0,none⟩) n y) n (zw (waits.take i++waits.drop (i+1))):=λn M=>by subst M;exact B
    exact L _ (by simp<;>omega)
end Go.Proofs.YtoanjdndmlffdaaGreatDoor
