import Derived.Test.YtoanjdndmlffdaaGreatDoorSiteE
set_option maxHeartbeats 8000000
set_option maxRecDepth 100000
namespace Go.Proofs.YtoanjdndmlffdaaGreatDoor
open Go.RowKit
theorem ql0:(Tryz.prog.info? 185).map (λi=>(i.zero,i.size,i.bytes))=some (some (.agg #[.int .i64 0,.int .i64 0,.int .i64 0,.int .i64 0,.int .i64 0,.string ⟨#[]⟩,.bool false]),7,64):=by kernel_rfl
section
open Go.Value Go.IntKind
structure qit (w:World) (sb so:Nat) (v:Value) (l:List Hd):Prop where
 box:qih w sb so v
 own:w.ownsRow 0 185 7 v l.length (qt3 l)
 apart:v.ownBlock≠some sb
 ok:∀h∈l,qd2 h.v=true
def qhd (w:World) (sb so:Nat) (v:Value) (l':List Hd) (w':World):Prop:=
 ∃v',qit w' sb so v' l'/\(∀k,v'.ownBlock=some k->v.ownBlock=some k\/w.heap.size<=k)/\qae (q75 sb v) w w'/\qgx sb so w w'
variable {w w':World} {sb so:Nat} {v:Value} {l:List Hd}
theorem qit.later (h:qit w sb so v l) (hb:Below w.heap.size w w'):qit w' sb so v l:=⟨h.box.later hb,qga h.own hb,h.apart,h.ok⟩
theorem qhd.same (h:qit w sb so v l) (hb:Below w.heap.size w w'):qhd w sb so v l w':=
 ⟨v,h.later hb,λ_ a=>.inl a,qae.ofBelow hb,qgx.ofBlock (hb.block sb h.box.lt)⟩
variable {sv:Value}
theorem q0f {key:Int} (h:inB key 0 7=false) (v:Ver) (w:World) (b:qit w sb so sv l):
 Calls Tryz.prog 181 #[.pointer (some ⟨sb,so,none⟩),int i64 key,.agg #[int i64 v.wall,int i64 v.count,int i64 v.site,int i64 v.seq,.string v.data,.bool v.gone]] w λe w'=>e=.returned (int i64 (qig l key v))/\qhd w sb so sv (qgp l key v) w':=by
 have e:qig l key v=2:=by unfold qig;rw[h];rfl
 have a:qgp l key v=l:=by unfold qgp;rw[e];rfl
 rw[e,a];have H:Hid _:=h;clear h e a;go_enter Tryz.func181,Tryz.ntmps181
 go_wp2_with fail
 refine(qax H.out _).mono ?_;rintro e d ⟨rfl,c⟩
 go_wp2_with fail
 go_ret;exact⟨rfl,qhd.same b (qab (boxed (Below.refl _ _) _) c)⟩
theorem q77 {key:Int} (h:inB key 0 7=true) (v:Ver) (a:qd2 v=false) (w:World) (b:qit w sb so sv l):
 Calls Tryz.prog 181 #[.pointer (some ⟨sb,so,none⟩),int i64 key,.agg #[int i64 v.wall,int i64 v.count,int i64 v.site,int i64 v.seq,.string v.data,.bool v.gone]] w λe w'=>e=.returned (int i64 (qig l key v))/\qhd w sb so sv (qgp l key v) w':=by
 have e:qig l key v=1:=by unfold qig;rw[h,a];rfl
 have q:qgp l key v=l:=by unfold qgp;rw[e];rfl
 rw[e,q];have H:Hid _:=h;clear h e q;obtain⟨wl,j,st,k,c,gn⟩:=v;have R:=qag.new (w:=w) (T:=130) [int i64 wl,int i64 j,int i64 st,int i64 k,.string c,.bool gn] rfl;have hb:=boxed (Below.refl _ w) (.cells #[int i64 wl,int i64 j,int i64 st,int i64 k,.string c,.bool gn] 130);go_enter Tryz.func181,Tryz.ntmps181
 go_wp2_with fail
 refine(qax H.out _).mono ?_;rintro e x ⟨rfl,m⟩;replace R:=R.later m;replace hb:=qab hb m;clear m;have c0:=R.cell 0 _ rfl;have c1:=R.cell 1 _ rfl;cases p1:(qal wl&&qal j)
 ·have n:Hid _:=p1;clear p1
  go_wp2_with fail
  refine(qbf n.out _).mono ?_;rintro e w2 ⟨rfl,d⟩;replace hb:=qab hb d
  go_wp2_with fail
  go_ret;exact⟨rfl,qhd.same b hb⟩
 ·have n:Hid _:=p1
  go_wp2_with fail
  refine(qbf n.out _).mono ?_;rintro e w2 ⟨rfl,d⟩;replace R:=R.later d;replace hb:=qab hb d;clear d c0 c1;have c2:=R.cell 2 _ rfl;cases p2:inB st 0 3
  ·have o:Hid _:=p2;clear p1 p2
   go_wp2_with fail
   refine(qax o.out _).mono ?_;rintro e s ⟨rfl,g⟩;replace hb:=qab hb g
   go_wp2_with fail
   go_ret;exact⟨rfl,qhd.same b hb⟩
  ·have o:Hid _:=p2
   go_wp2_with fail
   refine(qax o.out _).mono ?_;rintro e s ⟨rfl,g⟩;replace R:=R.later g;replace hb:=qab hb g;clear g c2;have c3:=R.cell 3 _ rfl;cases p3:inB k 1 1099511627776
   ·have p:Hid _:=p3;clear p1 p2 p3
    go_wp2_with fail
    refine(qax p.out _).mono ?_;rintro e u ⟨rfl,i⟩;replace hb:=qab hb i
    go_wp2_with fail
    go_ret;exact⟨rfl,qhd.same b hb⟩
   ·have p:Hid _:=p3
    go_wp2_with fail
    refine(qax p.out _).mono ?_;rintro e u ⟨rfl,i⟩;replace R:=R.later i;replace hb:=qab hb i;clear i c3;have c4:=R.cell 4 _ rfl;have c5:=R.cell 5 _ rfl;by_cases y:12<(c.size:Int)
    ·clear p1 p2 p3
     go_wp2_with fail
     go_ret;exact⟨rfl,qhd.same b hb⟩
    ·have r:decide ((c.size:Int)<=12)=true:=decide_eq_true (by omega);cases gn
     ·simp only[qd2,p1,p2,p3,r,Bool.and_self,Bool.false_and,Bool.not_false]at a;cases a
     ·cases he:c.toList.isEmpty
      ·clear p1 p2 p3
       go_wp2_with fail
       go_ret;exact⟨rfl,qhd.same b hb⟩
      ·simp only[qd2,p1,p2,p3,r,he,Bool.and_self,Bool.not_true,Bool.and_false,Bool.not_false]at a;cases a
end
section
open Go.Value Go.IntKind
variable {sb so:Nat} {sv:Value} {l:List Hd}
theorem jaf {key:Int} (h:inB key 0 7=true) (v:Ver) (hv:qd2 v=true) (w:World) (C:qit w sb so sv l) (hl:l.length<=1000):
 Calls Tryz.prog 181 #[.pointer (some ⟨sb,so,none⟩),int i64 key,.agg #[int i64 v.wall,int i64 v.count,int i64 v.site,int i64 v.seq,.string v.data,.bool v.gone]] w λe w'=>e=.returned (int i64 (qig l key v))/\qhd w sb so sv (qgp l key v) w':=by
 have he:=qx1;have H:Hid _:=h;have HV:Hid _:=hv;clear h;obtain⟨wl,c,st,m,d,gn⟩:=v;have hp:=hv;simp only[qd2,Bool.and_eq_true]at hp;obtain⟨⟨⟨⟨p1,p2⟩,p3⟩,p4⟩,p5⟩:=hp
 have P1:Hid ((qal wl&&qal c)=true):=by show (qal wl&&qal c)=true;rw[p1.1,p1.2];rfl
 have P2:Hid _:=p2;have P3:Hid _:=p3
 have hdt:¬12<(d.size:Int):=by have:=of_decide_eq_true p4;omega
 have P5:Hid _:=p5;clear p1 p2 p3 p4 p5 hv;have R:=qag.new (w:=w) (T:=130) [int i64 wl,int i64 c,int i64 st,int i64 m,.string d,.bool gn] rfl;have hb:=boxed (Below.refl _ w) (.cells #[int i64 wl,int i64 c,int i64 st,int i64 m,.string d,.bool gn] 130);go_enter Tryz.func181,Tryz.ntmps181
 go_wp2_with fail
 refine(qax H.out _).mono ?_;rintro e w1 ⟨rfl,hb1⟩;replace R:=R.later hb1;replace hb:=qab hb hb1;have c0:=R.cell 0 _ rfl;have c1:=R.cell 1 _ rfl
 go_wp2_with fail
 refine(qbf P1.out _).mono ?_;rintro e w2 ⟨rfl,hb2⟩;replace R:=R.later hb2;replace hb:=qab hb hb2;clear hb1 hb2 c0 c1;have c2:=R.cell 2 _ rfl
 go_wp2_with fail
 refine(qax P2.out _).mono ?_;rintro e w3 ⟨rfl,hb3⟩;replace R:=R.later hb3;replace hb:=qab hb hb3;clear hb3 c2;have c3:=R.cell 3 _ rfl
 go_wp2_with fail
 refine(qax P3.out _).mono ?_;rintro e w4 ⟨rfl,hb4⟩;replace R:=R.later hb4;replace hb:=qab hb hb4;clear hb4 c3;have c4:=R.cell 4 _ rfl;have c5:=R.cell 5 _ rfl;cases gn
 ·skip;obtain⟨a,cap,rfl,hH⟩:=qjz C.own;have K:=hH.later hb;have box4:=C.box.later hb;have s0:w4.cell? ⟨sb,so,none⟩=some (.slice a l.length cap):=box4.cell
  go_wp2_with fail
  clear s0 box4
  go_loopw [48] (λiv wr=>∃(k:Nat) (z:Int),k<=l.length/\z=k/\iv=int i64 z/\(∀j,j<k->qfa key ⟨wl,c,st,m,d,false⟩ (qgt l j)=false)/\qag wr w.heap.size [int i64 wl,int i64 c,int i64 st,int i64 m,.string d,.bool false]/\Below w.heap.size w wr) (λi _=>l.length-(intOf i).toNat)
  case atStart=>exact⟨0,0,by omega,rfl,rfl,λj P=>by omega,R,hb⟩
  case round=>
   clear R hb K;obtain⟨k,z,L,Q,rfl,hnt,R,hb⟩:=hrel;have M:Hid _:=hnt;clear hnt;have S:Hid _:=Q;have K:=hH.later hb;by_cases o:k<l.length
   ·have h1:z<(l.length:Int):=by omega
    have h2:z.toNat=k:=by omega
    have h3:0<=z:=by omega
    clear Q
    obtain⟨b,p,rfl,q⟩:∃b p,a=some ⟨b,p,none⟩/\∀i r u,i<l.length->(hdL (qgt l i))[r]?=some u->wr.cell? ⟨b,p+(i*7+r),none⟩=some u:=by
     rcases K.held with U|U
     ·rw[U]at o;simp at o
     ·exact U
    obtain⟨⟨D,⟨E,F,hs,V,W,X⟩⟩,n⟩:∃x,qgt l k=x:=⟨_,rfl⟩;have x0:wr.cell? ⟨b,p+k*7,none⟩=some (int i64 D):=q k 0 _ o (by rw[n];rfl);have x1:wr.cell? ⟨b,p+k*7+1,none⟩=some (int i64 E):=q k 1 _ o (by rw[n];rfl);have x2:wr.cell? ⟨b,p+k*7+2,none⟩=some (int i64 F):=q k 2 _ o (by rw[n];rfl);have x3:wr.cell? ⟨b,p+k*7+3,none⟩=some (int i64 hs):=q k 3 _ o (by rw[n];rfl);have x4:wr.cell? ⟨b,p+k*7+4,none⟩=some (int i64 V):=q k 4 _ o (by rw[n];rfl);have x5:wr.cell? ⟨b,p+k*7+5,none⟩=some (.string W):=q k 5 _ o (by rw[n];rfl);have x6:wr.cell? ⟨b,p+k*7+6,none⟩=some (.bool X):=q k 6 _ o (by rw[n];rfl);have HX:Hid _:=n;clear n q K
    have N:Hid (qfa key ⟨wl,c,st,m,d,false⟩ (qgt l k)=((D==key)&&qm7 E F wl c&&(hs==st))):=by
     show qfa key ⟨wl,c,st,m,d,false⟩ (qgt l k)=_;rw[HX.out];simp only[qfa,qm7];rw[Bool.eq_iff_iff];simp
    have B:=R.boxed (.cells #[int i64 D,int i64 E,int i64 F,int i64 hs,int i64 V,.string W,.bool X] 185);have O:=boxed hb (.cells #[int i64 D,int i64 E,int i64 F,int i64 hs,int i64 V,.string W,.bool X] 185);have c0:=B.cell 0 _ rfl;have c1:=B.cell 1 _ rfl;have c2:=B.cell 2 _ rfl;cases e1:(D==key)
    ·have G:Hid (∀j,j<k+1->qfa key ⟨wl,c,st,m,d,false⟩ (qgt l j)=false):=λj P=>by
      rcases Nat.lt_or_ge j k with g|g
      ·exact M.out j g
      ·obtain rfl:j=k:=by omega
       rw[N.out,e1];rfl
     go_wp2_with fail
     go_roundw
     case rel=>exact⟨k+1,z+1,by omega,by have:=S.out;omega,by go_num,G.out,B,O⟩
     case measure=>simp[intOf];omega
    ·cases e2:qm7 E F wl c
     ·have G:Hid (∀j,j<k+1->qfa key ⟨wl,c,st,m,d,false⟩ (qgt l j)=false):=λj P=>by
       rcases Nat.lt_or_ge j k with g|g
       ·exact M.out j g
       ·obtain rfl:j=k:=by omega
        rw[N.out,e1,e2];rfl
      go_wp2_with fail
      go_roundw
      case rel=>exact⟨k+1,z+1,by omega,by have:=S.out;omega,by go_num,G.out,B,O⟩
      case measure=>simp[intOf];omega
     ·cases e3:(hs==st)
      ·have G:Hid (∀j,j<k+1->qfa key ⟨wl,c,st,m,d,false⟩ (qgt l j)=false):=λj P=>by
           rcases Nat.lt_or_ge j k with g|g
           ·exact M.out j g
           ·obtain rfl:j=k:=by omega
            rw[N.out,e1,e2,e3];rfl
       go_wp2_with fail
       go_roundw
       case rel=>exact⟨k+1,z+1,by omega,by have:=S.out;omega,by go_num,G.out,B,O⟩
       case measure=>simp[intOf];omega
      ·have I:Hid (qig l key ⟨wl,c,st,m,d,false⟩=9):=by
           have tt:qfa key ⟨wl,c,st,m,d,false⟩ (qgt l k)=true:=by rw[N.out,e1,e2,e3];rfl
           have Y:l.any (qfa key ⟨wl,c,st,m,d,false⟩)=true:=List.any_eq_true.2 ⟨qgt l k,by simp only[qgt,List.getD,List.getElem?_eq_getElem o,Option.getD_some];exact List.getElem_mem o,tt⟩;show qig l key ⟨wl,c,st,m,d,false⟩=9;unfold qig;rw[H.out,HV.out,Y];rfl
       have Z:Hid (qgp l key ⟨wl,c,st,m,d,false⟩=l):=by show qgp l key ⟨wl,c,st,m,d,false⟩=l;unfold qgp;rw[I.out];rfl
       go_wp2_with fail
       go_ret;exact⟨by rw[I.out];rfl,by rw[Z.out];exact qhd.same C O⟩
   ·have h4:¬z<(l.length:Int):=by omega
    have I:Hid (qig l key ⟨wl,c,st,m,d,false⟩=0):=by
     have Y:l.any (qfa key ⟨wl,c,st,m,d,false⟩)=false:=by
      rw[List.any_eq_false];intro x n;obtain⟨i,hi,rfl⟩:=List.mem_iff_getElem.1 n;have e:=M.out i (by omega);simp only[qgt,List.getD,List.getElem?_eq_getElem hi,Option.getD_some]at e;simp[e]
     show qig l key ⟨wl,c,st,m,d,false⟩=0;unfold qig;rw[H.out,HV.out,Y];rfl
    have Z:Hid (qgp l key ⟨wl,c,st,m,d,false⟩=l++[⟨key,⟨wl,c,st,m,d,false⟩⟩]):=by show qgp l key ⟨wl,c,st,m,d,false⟩=_;unfold qgp;rw[I.out];rfl
    clear Q;have s:=C.later hb;have s0:wr.cell? ⟨sb,so,none⟩=some (.slice a l.length cap):=s.box.cell;have s1:wr.frozen? ⟨sb,so,none⟩=false:=s.box.free;have hsb:sb<wr.heap.size:=s.box.lt;obtain⟨c0,c1,c2,c3,c4,c5⟩:=R.c6;have ownd:wr.drew.ownsRow 0 185 7 (.slice a l.length cap) l.length (qt3 l):=s.own;obtain⟨i0,hi,hz0,hz1,hz2⟩:=info_parts ql0
    go_wp2_with fail
    go_region_law (refine step_append_lies _ rfl (.tmp 77) (.tmp 81) 81 rfl 0 185 i0 (.agg #[int i64 0,int i64 0,int i64 0,int i64 0,int i64 0,.string ⟨#[]⟩,.bool false]) 7 64 Tryz.underlying81 hi hz0 hz1 hz2 rfl (by decide) (.slice a l.length cap) l.length (qt3 l) (by simp[Act.eval]) (ownd.alloc _) ⟨wr.heap.size,0,none⟩ 1 1 (hdL ⟨key,⟨wl,c,st,m,d,false⟩⟩) (by simp[Act.eval]) rfl (World.news_of_block (heap_alloc_new wr.drew (.cells #[int i64 key,int i64 wl,int i64 c,int i64 st,int i64 m,.string d,.bool false] 185))) (by intro u hu;simp[hdL]at hu;rcases hu with rfl|rfl|rfl|rfl|rfl|rfl|rfl<;>rfl) (by decide) (by simp only[maxLen];omega) (by omega) (by simp) _ rfl ?_
                   intro g J y ownE aa egE ltE;have BE:=((s.box.drew).boxed (.cells #[int i64 key,int i64 wl,int i64 c,int i64 st,int i64 m,.string d,.bool false] 185)).grown aa (λe=>s.apart e.symm);have s0E:y.cell? ⟨sb,so,none⟩=some (.slice a l.length cap):=BE.cell
                   have s1E:y.frozen? ⟨sb,so,none⟩=false:=BE.free)
    all_goals
     have BZ:=BE.set (.slice (some ⟨g,0,none⟩) (l.length+1) J)
     have gne:g≠sb:=by
      rcases egE with e|e
      ·intro h;rw[h]at e;exact s.apart e
      ·simp at e;omega
     have gnew:(Value.slice a l.length cap).ownBlock=some g\/w.heap.size<=g:=by
      rcases egE with e|e
      ·exact .inl e
      ·right
       have:=hb.size;simp at e;omega
     have ownZ:=ownE.kept (row:=some sb) (qj9 sb so y (.slice (some ⟨g,0,none⟩) (l.length+1) J)) (.inr (λe=>gne (by simpa[Value.ownBlock]using e)))
     have TZ:qae (q75 sb (.slice a l.length cap)) w (y.setCell ⟨sb,so,none⟩ (.slice (some ⟨g,0,none⟩) (l.length+1) J)):=
      (((qae.ofBelow hb).trans (qae.ofBelow (boxed ((Below.refl _ wr).drew) (.cells #[int i64 key,int i64 wl,int i64 c,int i64 st,int i64 m,.string d,.bool false] 185)))).trans (qae.grown aa (λk L=>.inr L))).trans (qae.setCell y ⟨sb,so,none⟩ _ (.inl rfl))
     have RZ:qgx sb so w (y.setCell ⟨sb,so,none⟩ (.slice (some ⟨g,0,none⟩) (l.length+1) J)):=
      (((qgx.ofBlock (hb.block sb C.box.lt)).trans (qgx.ofBlock (w:=wr) (Below.heap_alloc wr.drew _ sb hsb))).trans (qgx.ofBlock (aa.block sb (by simp;omega) (λe=>s.apart e.symm)))).trans (qgx.set sb so y _)
     have FIN:Hid (qhd w sb so (.slice a l.length cap) (l++[⟨key,⟨wl,c,st,m,d,false⟩⟩]) (y.setCell ⟨sb,so,none⟩ (.slice (some ⟨g,0,none⟩) (l.length+1) J))):=
      ⟨_,⟨BZ,by rw[qjk,List.length_append];exact ownZ,λe=>gne (by simpa[Value.ownBlock]using e),λx n=>by
        rcases List.mem_append.1 n with h|h
        ·exact C.ok x h
        ·obtain rfl:=List.mem_singleton.1 h
         exact HV.out⟩,λk L=>by
        have e:g=k:=by simpa[Value.ownBlock]using L
        rw[<-e]
        exact gnew,TZ,RZ⟩
     clear BZ ownZ TZ gnew gne
     go_wp2_with fail
     go_ret;exact⟨by rw[I.out];rfl,by rw[Z.out];exact FIN.out⟩
 ·have em:d.toList.isEmpty=true:=by
   have:=P5.out;cases n:d.toList.isEmpty
   ·rw[n]at this;cases this
   ·rfl
  obtain⟨a,cap,rfl,hH⟩:=qjz C.own;have K:=hH.later hb;have box4:=C.box.later hb;have s0:w4.cell? ⟨sb,so,none⟩=some (.slice a l.length cap):=box4.cell
  go_wp2_with fail
  clear s0 box4
  go_loopw [48] (λiv wr=>∃(k:Nat) (z:Int),k<=l.length/\z=k/\iv=int i64 z/\(∀j,j<k->qfa key ⟨wl,c,st,m,d,true⟩ (qgt l j)=false)/\qag wr w.heap.size [int i64 wl,int i64 c,int i64 st,int i64 m,.string d,.bool true]/\Below w.heap.size w wr) (λi _=>l.length-(intOf i).toNat)
  case atStart=>exact⟨0,0,by omega,rfl,rfl,λj P=>by omega,R,hb⟩
  case round=>
   clear R hb K;obtain⟨k,z,L,Q,rfl,hnt,R,hb⟩:=hrel;have M:Hid _:=hnt;clear hnt;have S:Hid _:=Q;have K:=hH.later hb;by_cases o:k<l.length
   ·have h1:z<(l.length:Int):=by omega
    have h2:z.toNat=k:=by omega
    have h3:0<=z:=by omega
    clear Q
    obtain⟨b,p,rfl,q⟩:∃b p,a=some ⟨b,p,none⟩/\∀i r u,i<l.length->(hdL (qgt l i))[r]?=some u->wr.cell? ⟨b,p+(i*7+r),none⟩=some u:=by
     rcases K.held with U|U
     ·rw[U]at o;simp at o
     ·exact U
    obtain⟨⟨D,⟨E,F,hs,V,W,X⟩⟩,n⟩:∃x,qgt l k=x:=⟨_,rfl⟩;have x0:wr.cell? ⟨b,p+k*7,none⟩=some (int i64 D):=q k 0 _ o (by rw[n];rfl);have x1:wr.cell? ⟨b,p+k*7+1,none⟩=some (int i64 E):=q k 1 _ o (by rw[n];rfl);have x2:wr.cell? ⟨b,p+k*7+2,none⟩=some (int i64 F):=q k 2 _ o (by rw[n];rfl);have x3:wr.cell? ⟨b,p+k*7+3,none⟩=some (int i64 hs):=q k 3 _ o (by rw[n];rfl);have x4:wr.cell? ⟨b,p+k*7+4,none⟩=some (int i64 V):=q k 4 _ o (by rw[n];rfl);have x5:wr.cell? ⟨b,p+k*7+5,none⟩=some (.string W):=q k 5 _ o (by rw[n];rfl);have x6:wr.cell? ⟨b,p+k*7+6,none⟩=some (.bool X):=q k 6 _ o (by rw[n];rfl);have HX:Hid _:=n;clear n q K
    have N:Hid (qfa key ⟨wl,c,st,m,d,true⟩ (qgt l k)=((D==key)&&qm7 E F wl c&&(hs==st))):=by
     show qfa key ⟨wl,c,st,m,d,true⟩ (qgt l k)=_;rw[HX.out];simp only[qfa,qm7];rw[Bool.eq_iff_iff];simp
    have B:=R.boxed (.cells #[int i64 D,int i64 E,int i64 F,int i64 hs,int i64 V,.string W,.bool X] 185);have O:=boxed hb (.cells #[int i64 D,int i64 E,int i64 F,int i64 hs,int i64 V,.string W,.bool X] 185);have c0:=B.cell 0 _ rfl;have c1:=B.cell 1 _ rfl;have c2:=B.cell 2 _ rfl;cases e1:(D==key)
    ·have G:Hid (∀j,j<k+1->qfa key ⟨wl,c,st,m,d,true⟩ (qgt l j)=false):=λj P=>by
         rcases Nat.lt_or_ge j k with g|g
         ·exact M.out j g
         ·obtain rfl:j=k:=by omega
          rw[N.out,e1];rfl
     go_wp2_with fail
     go_roundw
     case rel=>exact⟨k+1,z+1,by omega,by have:=S.out;omega,by go_num,G.out,B,O⟩
     case measure=>simp[intOf];omega
    ·cases e2:qm7 E F wl c
     ·have G:Hid (∀j,j<k+1->qfa key ⟨wl,c,st,m,d,true⟩ (qgt l j)=false):=λj P=>by
          rcases Nat.lt_or_ge j k with g|g
          ·exact M.out j g
          ·obtain rfl:j=k:=by omega
           rw[N.out,e1,e2];rfl
      go_wp2_with fail
      go_roundw
      case rel=>exact⟨k+1,z+1,by omega,by have:=S.out;omega,by go_num,G.out,B,O⟩
      case measure=>simp[intOf];omega
     ·cases e3:(hs==st)
      ·have G:Hid (∀j,j<k+1->qfa key ⟨wl,c,st,m,d,true⟩ (qgt l j)=false):=λj P=>by
           rcases Nat.lt_or_ge j k with g|g
           ·exact M.out j g
           ·obtain rfl:j=k:=by omega
            rw[N.out,e1,e2,e3];rfl
       go_wp2_with fail
       go_roundw
       case rel=>exact⟨k+1,z+1,by omega,by have:=S.out;omega,by go_num,G.out,B,O⟩
       case measure=>simp[intOf];omega
      ·have I:Hid (qig l key ⟨wl,c,st,m,d,true⟩=9):=by
           have tt:qfa key ⟨wl,c,st,m,d,true⟩ (qgt l k)=true:=by rw[N.out,e1,e2,e3];rfl
           have Y:l.any (qfa key ⟨wl,c,st,m,d,true⟩)=true:=List.any_eq_true.2 ⟨qgt l k,by simp only[qgt,List.getD,List.getElem?_eq_getElem o,Option.getD_some];exact List.getElem_mem o,tt⟩;show qig l key ⟨wl,c,st,m,d,true⟩=9;unfold qig;rw[H.out,HV.out,Y];rfl
       have Z:Hid (qgp l key ⟨wl,c,st,m,d,true⟩=l):=by show qgp l key ⟨wl,c,st,m,d,true⟩=l;unfold qgp;rw[I.out];rfl
       go_wp2_with fail
       go_ret;exact⟨by rw[I.out];rfl,by rw[Z.out];exact qhd.same C O⟩
   ·have h4:¬z<(l.length:Int):=by omega
    have I:Hid (qig l key ⟨wl,c,st,m,d,true⟩=0):=by
     have Y:l.any (qfa key ⟨wl,c,st,m,d,true⟩)=false:=by
         rw[List.any_eq_false];intro x n;obtain⟨i,hi,rfl⟩:=List.mem_iff_getElem.1 n;have e:=M.out i (by omega);simp only[qgt,List.getD,List.getElem?_eq_getElem hi,Option.getD_some]at e;simp[e]
     show qig l key ⟨wl,c,st,m,d,true⟩=0;unfold qig;rw[H.out,HV.out,Y];rfl
    have Z:Hid (qgp l key ⟨wl,c,st,m,d,true⟩=l++[⟨key,⟨wl,c,st,m,d,true⟩⟩]):=by show qgp l key ⟨wl,c,st,m,d,true⟩=_;unfold qgp;rw[I.out];rfl
    clear Q;have s:=C.later hb;have s0:wr.cell? ⟨sb,so,none⟩=some (.slice a l.length cap):=s.box.cell;have s1:wr.frozen? ⟨sb,so,none⟩=false:=s.box.free;have hsb:sb<wr.heap.size:=s.box.lt;obtain⟨c0,c1,c2,c3,c4,c5⟩:=R.c6;have ownd:wr.drew.ownsRow 0 185 7 (.slice a l.length cap) l.length (qt3 l):=s.own;obtain⟨i0,hi,hz0,hz1,hz2⟩:=info_parts ql0
    go_wp2_with fail
    go_region_law (refine step_append_lies _ rfl (.tmp 77) (.tmp 81) 81 rfl 0 185 i0 (.agg #[int i64 0,int i64 0,int i64 0,int i64 0,int i64 0,.string ⟨#[]⟩,.bool false]) 7 64 Tryz.underlying81 hi hz0 hz1 hz2 rfl (by decide) (.slice a l.length cap) l.length (qt3 l) (by simp[Act.eval]) (ownd.alloc _) ⟨wr.heap.size,0,none⟩ 1 1 (hdL ⟨key,⟨wl,c,st,m,d,true⟩⟩) (by simp[Act.eval]) rfl (World.news_of_block (heap_alloc_new wr.drew (.cells #[int i64 key,int i64 wl,int i64 c,int i64 st,int i64 m,.string d,.bool true] 185))) (by intro u hu;simp[hdL]at hu;rcases hu with rfl|rfl|rfl|rfl|rfl|rfl|rfl<;>rfl) (by decide) (by simp only[maxLen];omega) (by omega) (by simp) _ rfl ?_
                   intro g J y ownE aa egE ltE;have BE:=((s.box.drew).boxed (.cells #[int i64 key,int i64 wl,int i64 c,int i64 st,int i64 m,.string d,.bool true] 185)).grown aa (λe=>s.apart e.symm);have s0E:y.cell? ⟨sb,so,none⟩=some (.slice a l.length cap):=BE.cell
                   have s1E:y.frozen? ⟨sb,so,none⟩=false:=BE.free)
    all_goals
     have BZ:=BE.set (.slice (some ⟨g,0,none⟩) (l.length+1) J)
     have gne:g≠sb:=by
         rcases egE with e|e
         ·intro h;rw[h]at e;exact s.apart e
         ·simp at e;omega
     have gnew:(Value.slice a l.length cap).ownBlock=some g\/w.heap.size<=g:=by
         rcases egE with e|e
         ·exact .inl e
         ·right
          have:=hb.size;simp at e;omega
     have ownZ:=ownE.kept (row:=some sb) (qj9 sb so y (.slice (some ⟨g,0,none⟩) (l.length+1) J)) (.inr (λe=>gne (by simpa[Value.ownBlock]using e)))
     have TZ:qae (q75 sb (.slice a l.length cap)) w (y.setCell ⟨sb,so,none⟩ (.slice (some ⟨g,0,none⟩) (l.length+1) J)):=
         (((qae.ofBelow hb).trans (qae.ofBelow (boxed ((Below.refl _ wr).drew) (.cells #[int i64 key,int i64 wl,int i64 c,int i64 st,int i64 m,.string d,.bool true] 185)))).trans (qae.grown aa (λk L=>.inr L))).trans (qae.setCell y ⟨sb,so,none⟩ _ (.inl rfl))
     have RZ:qgx sb so w (y.setCell ⟨sb,so,none⟩ (.slice (some ⟨g,0,none⟩) (l.length+1) J)):=
         (((qgx.ofBlock (hb.block sb C.box.lt)).trans (qgx.ofBlock (w:=wr) (Below.heap_alloc wr.drew _ sb hsb))).trans (qgx.ofBlock (aa.block sb (by simp;omega) (λe=>s.apart e.symm)))).trans (qgx.set sb so y _)
     have FIN:Hid (qhd w sb so (.slice a l.length cap) (l++[⟨key,⟨wl,c,st,m,d,true⟩⟩]) (y.setCell ⟨sb,so,none⟩ (.slice (some ⟨g,0,none⟩) (l.length+1) J))):=
         ⟨_,⟨BZ,by rw[qjk,List.length_append];exact ownZ,λe=>gne (by simpa[Value.ownBlock]using e),λx n=>by
           rcases List.mem_append.1 n with h|h
           ·exact C.ok x h
           ·obtain rfl:=List.mem_singleton.1 h
            exact HV.out⟩,λk L=>by
           have e:g=k:=by simpa[Value.ownBlock]using L
           rw[<-e]
           exact gnew,TZ,RZ⟩
     clear BZ ownZ TZ gnew gne
     go_wp2_with fail
     go_ret;exact⟨by rw[I.out];rfl,by rw[Z.out];exact FIN.out⟩
theorem q8d (key:Int) (v:Ver) (w:World) (a:qit w sb so sv l) (b:l.length<=1000):
 Calls Tryz.prog 181 #[.pointer (some ⟨sb,so,none⟩),int i64 key,.agg #[int i64 v.wall,int i64 v.count,int i64 v.site,int i64 v.seq,.string v.data,.bool v.gone]] w λe w'=>e=.returned (int i64 (qig l key v))/\qhd w sb so sv (qgp l key v) w':=by
 cases h:inB key 0 7
 ·exact q0f h v w a
 ·cases hv:qd2 v
  ·exact q77 h v hv w a
  ·exact jaf h v hv w a b
end
section
structure qco (w:World) (b:Nat) (lv wv sv:Value) (S:qaf) (log waits:List TxM):Prop where
 box:qag w b (qc5 S lv wv sv)
 rlog:w.ownsRow 0 102 9 lv log.length (qfi log)
 rwait:w.ownsRow 0 102 9 wv waits.length (qfi waits)
 own:w.ownsRow 0 185 7 sv S.l.length (qt3 S.l)
 ok:∀h∈S.l,qd2 h.v=true
 nl:lv.ownBlock≠some b
 nw:wv.ownBlock≠some b
 ns:sv.ownBlock≠some b
 lw:∀k,lv.ownBlock=some k->wv.ownBlock≠some k
 ls:∀k,lv.ownBlock=some k->sv.ownBlock≠some k
 ws:∀k,wv.ownBlock=some k->sv.ownBlock≠some k
 hold:∀m∈log++waits,qaz w m.wa m.wc m.t.ws/\∀k,m.blk k->¬qas b lv wv sv k
variable {w:World} {b:Nat} {lv wv sv:Value} {S:qaf}
theorem qco.lt {log waits:List TxM} (h:qco w b lv wv sv S log waits):∀k,qas b lv wv sv k->k<w.heap.size:=λk a=>by
 rcases a with rfl|a|a|a
 ·exact h.box.lt
 ·exact(h.rlog.lt k a).2
 ·exact(h.rwait.lt k a).2
 ·exact(h.own.lt k a).2
variable {w':World}
theorem qco.kept {log waits:List TxM} (h:qco w b lv wv sv S log waits) (a:∀k,k<w.heap.size->w'.heap[k]?=w.heap[k]?) (hs:w.heap.size<=w'.heap.size):qco w' b lv wv sv S log waits:=
 ⟨h.box.kept (a b h.box.lt) hs,qad h.rlog (λk e=>a k (h.rlog.lt k e).2),qad h.rwait (λk e=>a k (h.rwait.lt k e).2),qad h.own (λk e=>a k (h.own.lt k e).2),h.ok,h.nl,h.nw,h.ns,h.lw,h.ls,h.ws,
   λm c=>⟨(h.hold m c).1.kept (λk e=>a k ((h.hold m c).1.blk_lt k e)),(h.hold m c).2⟩⟩
theorem qco.later {log waits:List TxM} (h:qco w b lv wv sv S log waits) (hb:Below w.heap.size w w'):qco w' b lv wv sv S log waits:=h.kept hb.block hb.size
theorem qco.st {log waits:List TxM} (h:qco w b lv wv sv S log waits):qit w b 9 sv S.l:=⟨⟨h.box.cell 9 _ rfl,h.box.free 9 (by simp[qc5]),h.box.lt⟩,h.own,h.ns,h.ok⟩
theorem qco.store {log waits:List TxM} {q:List Hd} (h:qco w b lv wv sv S log waits) (y:qhd w b 9 sv q w'):
 ∃d,qco w' b lv wv d {S with l:=q} log waits/\(∀k,qas b lv wv d k->qas b lv wv sv k\/w.heap.size<=k)/\qae (qas b lv wv sv) w w':=by
 obtain⟨d,st,o,f,r⟩:=y
 have i:∀k,k<w.heap.size->k≠b->sv.ownBlock≠some k->w'.heap[k]?=w.heap[k]?:=λk c a z=>f.block k c (λe=>by
  rcases e with e|e
  ·exact a e
  ·exact z e)
 have A:∀k,lv.ownBlock=some k->w'.heap[k]?=w.heap[k]?:=λk e=>i k (h.rlog.lt k e).2 (λx=>h.nl (by rw[<-x];exact e)) (h.ls k e);have B:∀k,wv.ownBlock=some k->w'.heap[k]?=w.heap[k]?:=λk e=>i k (h.rwait.lt k e).2 (λx=>h.nw (by rw[<-x];exact e)) (h.ws k e)
 have s:∀k,qas b lv wv d k->qas b lv wv sv k\/w.heap.size<=k:=λk c=>by
  rcases c with c|c|c|c
  ·exact .inl (.inl c)
  ·exact .inl (.inr (.inl c))
  ·exact .inl (.inr (.inr (.inl c)))
  ·rcases o k c with a|a
   ·exact .inl (.inr (.inr (.inr a)))
   ·exact .inr a
 refine⟨d,⟨⟨λj v t=>?_,λj C=>?_,st.box.lt⟩,qad h.rlog A,qad h.rwait B,st.own,st.ok,h.nl,h.nw,st.apart,h.lw,λk e=>?_,λk e=>?_,λm g=>⟨(h.hold m g).1.kept (λk e=>?_),λk e n=>?_⟩⟩,s,⟨f.os,f.tape,f.output,f.size,λk c n=>i k c (λe=>n (.inl e)) (λe=>n (.inr (.inr (.inr e))))⟩⟩
 ·by_cases e:j=9
  ·subst e
   have D:v=d:=by simpa[qc5]using t.symm
   rw[D];exact st.box.cell
  ·rw[(r j e).1];refine h.box.cell j v ?_;rw[<-t];unfold qc5
   match j,e with
   |0,_=>rfl
   |1,_=>rfl
   |2,_=>rfl
   |3,_=>rfl
   |4,_=>rfl
   |5,_=>rfl
   |6,_=>rfl
   |7,_=>rfl
   |8,_=>rfl
   |j+10,_=>rfl
 ·by_cases e:j=9
  ·subst e;exact st.box.free
  ·rw[(r j e).2];exact h.box.free j C
 ·intro p;rcases o k p with a|a
  ·exact h.ls k e a
  ·have:=(h.rlog.lt k e).2;omega
 ·intro p;rcases o k p with a|a
  ·exact h.ws k e a
  ·have:=(h.rwait.lt k e).2;omega
 ·have lt:=(h.hold m g).1.blk_lt k e;have u:=(h.hold m g).2 k e;exact i k lt (λx=>u (.inl x)) (λx=>u (.inr (.inr (.inr x))))
 ·rcases s k n with a|a
  ·exact(h.hold m g).2 k e a
  ·have:=(h.hold m g).1.blk_lt k e;omega
end
section
structure qn7 (w0:World) (b:Nat) (lv wv sv:Value) (S:qaf) (log waits:List TxM) (m:TxM) (k:Nat) (sv':Value) (wr:World):Prop where
 mem:qco wr b lv wv sv' {S with l:=qgw m.t (m.t.ws.take k) S.l} log waits
 box:qag wr w0.heap.size (txC m)
 far:¬qas b lv wv sv' w0.heap.size
 foot:∀j,qas b lv wv sv' j->qas b lv wv sv j\/w0.heap.size<=j
 touch:qae (qas b lv wv sv) w0 wr
variable {w0 wr w':World} {b k:Nat} {lv wv sv:Value} {S:qaf} {m:TxM}
theorem qn7.later {log waits:List TxM} {a:Value} (h:qn7 w0 b lv wv sv S log waits m k a wr) (hb:Below wr.heap.size wr w'):qn7 w0 b lv wv sv S log waits m k a w':=
 ⟨h.mem.later hb,h.box.later hb,h.far,h.foot,h.touch.trans (qae.ofBelow hb)⟩
theorem qn7.put {log waits:List TxM} {e:Value} (h:qn7 w0 b lv wv sv S log waits m k e wr) (i:k<m.t.ws.length)
 (n:qhd wr b 9 e (qgp (qgw m.t (m.t.ws.take k) S.l) (qgi m.t.ws k).key (qul m.t (qgi m.t.ws k))) w'):∃c,qn7 w0 b lv wv sv S log waits m (k+1) c w':=by
 obtain⟨c,o,f,d⟩:=h.mem.store n;refine⟨c,by rw[qqk i];exact o,h.box.kept (d.block _ h.box.lt h.far) d.size,λp=>?_,λj q=>?_,h.touch.more d h.foot⟩
 ·rcases f _ p with a|a
  ·exact h.far a
  ·have:=h.box.lt;omega
 ·rcases f j q with a|a
  ·exact h.foot j a
  ·exact .inr (by have:=h.touch.size;omega)
theorem qn7.outside {log waits:List TxM} {c:Value} {d:Nat} {xs:List Value} {f:List Hd} (h:qn7 w0 b lv wv sv S log waits m k c wr)
 (i:qhd wr b 9 c f w') (e:qag wr d xs) (j:¬qas b lv wv c d):ApB w0.heap.size d (txC m) xs w':=by
 obtain⟨l,n,o,a⟩:=h.mem.store i;exact⟨h.box.kept (a.block _ h.box.lt h.far) a.size,e.kept (a.block _ e.lt j) a.size⟩
variable {w:World}
theorem qco.cells {S':qaf} {log waits:List TxM} (h:qco w b lv wv sv S log waits) (a:∀k,k≠b->w'.heap[k]?=w.heap[k]?) (f:qag w' b (qc5 S' lv wv sv)) (d:S'.l=S.l):qco w' b lv wv sv S' log waits:=
 ⟨f,qad h.rlog (λk e=>a k (λx=>h.nl (by rw[<-x];exact e))),qad h.rwait (λk e=>a k (λx=>h.nw (by rw[<-x];exact e))),by rw[d];exact qad h.own (λk e=>a k (λx=>h.ns (by rw[<-x];exact e))),by rw[d];exact h.ok,h.nl,h.nw,h.ns,h.lw,h.ls,h.ws,
   λm c=>⟨(h.hold m c).1.kept (λk e=>a k (λx=>(h.hold m c).2 k e (.inl x))),(h.hold m c).2⟩⟩
variable {s:Int}
theorem qco.seq {log waits:List TxM} (h:qco w b lv wv sv S log waits) (x:Int) (d:0<=s) (e:s<=3):
 qco (w.setCell ⟨b,1+s.toNat,none⟩ (.int .i64 x)) b lv wv sv {S with a0:=qh4 s x S.a0,a1:=qhq s x S.a1,a2:=qhs s x S.a2,a3:=qh6 s x S.a3} log waits:=by
 refine h.cells (λk a=>Below.heap_setCell _ _ _ _ a) ?_ rfl;have R:=h.box.set (1+s.toNat) (.int .i64 x) (by simp[qc5];omega)
 have c:s=0\/s=1\/s=2\/s=3:=by omega
 rcases c with rfl|rfl|rfl|rfl<;>exact R
theorem qco.last {log waits:List TxM} (h:qco w b lv wv sv S log waits) (x y:Int):
 qco ((w.setCell ⟨b,5,none⟩ (.int .i64 x)).setCell ⟨b,6,none⟩ (.int .i64 y)) b lv wv sv {S with lw:=x,lc:=y} log waits:=
 h.cells (λk a=>(Below.heap_setCell _ _ _ _ a).trans (Below.heap_setCell _ _ _ _ a)) ((h.box.set 5 _ (by simp[qc5])).set 6 _ (by simp[qc5])) rfl
variable {wE:World} {g:Nat}
theorem qco.append {log waits:List TxM} (h:qco w b lv wv sv S log waits) (m:TxM) (q:qaz w m.wa m.wc m.t.ws/\∀k,m.blk k->¬qas b lv wv sv k) {f:Nat} (gr:w.grownBy wE lv.ownBlock)
 (r:wE.ownsRow 0 102 9 (.slice (some ⟨g,0,none⟩) (log.length+1) f) (log.length+1) (qfi log++txC m)) (l:lv.ownBlock=some g\/w.heap.size<=g):
 qco (wE.setCell ⟨b,7,none⟩ (.slice (some ⟨g,0,none⟩) (log.length+1) f)) b (.slice (some ⟨g,0,none⟩) (log.length+1) f) wv sv S (log++[m]) waits/\(∀k,qas b (.slice (some ⟨g,0,none⟩) (log.length+1) f) wv sv k->qas b lv wv sv k\/w.heap.size<=k)/\
  qae (qas b lv wv sv) w (wE.setCell ⟨b,7,none⟩ (.slice (some ⟨g,0,none⟩) (log.length+1) f)):=by
 have n:∀k,k<w.heap.size->k≠b->lv.ownBlock≠some k->(wE.setCell ⟨b,7,none⟩ (.slice (some ⟨g,0,none⟩) (log.length+1) f)).heap[k]?=w.heap[k]?:=λk c a j=>
  (Below.heap_setCell _ _ _ _ a).trans (gr.block k c (λe=>j e.symm))
 have o:g≠b:=λe=>by
  rcases l with a|a
  ·exact h.nl (by rw[<-e];exact a)
  ·have:=h.box.lt;omega
 have gk:∀k,(Value.slice (some ⟨g,0,none⟩) (log.length+1) f).ownBlock=some k->g=k:=λk c=>by simpa[Value.ownBlock]using c
 have p:∀k,qas b (.slice (some ⟨g,0,none⟩) (log.length+1) f) wv sv k->qas b lv wv sv k\/w.heap.size<=k:=λk c=>by
  rcases c with c|c|c
  ·exact .inl (.inl c)
  ·obtain rfl:=gk k c;rcases l with a|a
   ·exact .inl (.inr (.inl a))
   ·exact .inr a
  ·exact .inl (.inr (.inr c))
 have hold:∀d:TxM,(qaz w d.wa d.wc d.t.ws/\∀k,d.blk k->¬qas b lv wv sv k)->qaz (wE.setCell ⟨b,7,none⟩ (.slice (some ⟨g,0,none⟩) (log.length+1) f)) d.wa d.wc d.t.ws/\∀k,d.blk k->¬qas b (.slice (some ⟨g,0,none⟩) (log.length+1) f) wv sv k:=λd i=>
  ⟨i.1.kept (λk e=>n k (i.1.blk_lt k e) (λx=>i.2 k e (.inl x)) (λx=>i.2 k e (.inr (.inl x)))),λk e u=>by
    rcases p k u with a|a
    ·exact i.2 k e a
    ·have:=i.1.blk_lt k e
     omega⟩
 refine⟨⟨(h.box.grown gr (λe=>h.nl e.symm)).set 7 _ (by simp[qc5]),?_,qad h.rwait (λk e=>n k (h.rwait.lt k e).2 (λx=>h.nw (by rw[<-x];exact e)) (λx=>h.lw k x e)),qad h.own (λk e=>n k (h.own.lt k e).2 (λx=>h.ns (by rw[<-x];exact e)) (λx=>h.ls k x e)),h.ok,λe=>o (gk b e),h.nw,h.ns,
  λk e=>?_,λk e=>?_,h.ws,λd i=>hold d ?_⟩,p,?_⟩
 ·have:=r.kept (row:=some b) (qj9 b 7 wE (.slice (some ⟨g,0,none⟩) (log.length+1) f)) (.inr (λe=>o (gk b e)));rw[qlp,List.length_append];exact this
 ·obtain rfl:=gk k e;rcases l with a|a
  ·exact h.lw _ a
  ·intro x;have:=(h.rwait.lt _ x).2;omega
 ·obtain rfl:=gk k e;rcases l with a|a
  ·exact h.ls _ a
  ·intro x;have:=(h.own.lt _ x).2;omega
 ·rcases List.mem_append.1 i with a|a
  ·rcases List.mem_append.1 a with j|j
   ·exact h.hold d (List.mem_append.2 (.inl j))
   ·obtain rfl:=List.mem_singleton.1 j;exact q
  ·exact h.hold d (List.mem_append.2 (.inr a))
 ·exact(qae.grown gr (λk c=>.inr (.inl c))).trans (qae.setCell wE ⟨b,7,none⟩ _ (.inl rfl))
structure ApE (w0:World) (b:Nat) (lv wv sv:Value) (S:qaf) (log waits:List TxM) (m:TxM) (sv':Value) (wr:World):Prop where
 mem:qco wr b lv wv sv' S log waits
 box:qag wr w0.heap.size (txC m)
 far:¬qas b lv wv sv' w0.heap.size
 foot:∀j,qas b lv wv sv' j->qas b lv wv sv j\/w0.heap.size<=j
 touch:qae (qas b lv wv sv) w0 wr
theorem ApE.later {log waits:List TxM} {a:Value} (h:ApE w0 b lv wv sv S log waits m a wr) (hb:Below wr.heap.size wr w'):ApE w0 b lv wv sv S log waits m a w':=
 ⟨h.mem.later hb,h.box.later hb,h.far,h.foot,h.touch.trans (qae.ofBelow hb)⟩
theorem ApE.seq {log waits:List TxM} {a:Value} (h:ApE w0 b lv wv sv S log waits m a wr) (x:Int) (c:0<=s) (d:s<=3):
 ApE w0 b lv wv sv {S with a0:=qh4 s x S.a0,a1:=qhq s x S.a1,a2:=qhs s x S.a2,a3:=qh6 s x S.a3} log waits m a (wr.setCell ⟨b,1+s.toNat,none⟩ (.int .i64 x)):=
 ⟨h.mem.seq x c d,h.box.far _ _ (λe=>h.far (.inl e.symm)),h.far,h.foot,h.touch.trans (qae.setCell wr ⟨b,1+s.toNat,none⟩ _ (.inl rfl))⟩
theorem ApE.last {log waits:List TxM} {a:Value} (h:ApE w0 b lv wv sv S log waits m a wr) (x y:Int):
 ApE w0 b lv wv sv {S with lw:=x,lc:=y} log waits m a ((wr.setCell ⟨b,5,none⟩ (.int .i64 x)).setCell ⟨b,6,none⟩ (.int .i64 y)):=
 ⟨h.mem.last x y,(h.box.far _ _ (λe=>h.far (.inl e.symm))).far _ _ (λe=>h.far (.inl e.symm)),h.far,h.foot,(h.touch.trans (qae.setCell wr ⟨b,5,none⟩ _ (.inl rfl))).trans (qae.setCell _ ⟨b,6,none⟩ _ (.inl rfl))⟩
theorem ApE.append {log waits:List TxM} {l:Value} (h:ApE w0 b lv wv sv S log waits m l wr) (a:qaz w0 m.wa m.wc m.t.ws/\∀k,m.blk k->¬qas b lv wv sv k) {d:Nat} (gr:wr.grownBy wE lv.ownBlock)
 (n:wE.ownsRow 0 102 9 (.slice (some ⟨g,0,none⟩) (log.length+1) d) (log.length+1) (qfi log++txC m)) (o:lv.ownBlock=some g\/wr.heap.size<=g):
 ∃f i,qco (wE.setCell ⟨b,7,none⟩ (.slice (some ⟨g,0,none⟩) (log.length+1) d)) b f wv i S (log++[m]) waits/\(∀k,qas b f wv i k->qas b lv wv sv k\/w0.heap.size<=k)/\qae (qas b lv wv sv) w0 (wE.setCell ⟨b,7,none⟩ (.slice (some ⟨g,0,none⟩) (log.length+1) d)):=by
 obtain⟨c,p,q⟩:=h.mem.append m ⟨a.1.kept (λk e=>h.touch.block k (a.1.blk_lt k e) (a.2 k e)),λk e r=>by
  rcases h.foot k r with c|c
  ·exact a.2 k e c
  ·have:=a.1.blk_lt k e
   omega⟩ gr n o
 refine⟨_,_,c,λk u=>?_,h.touch.more q h.foot⟩;rcases p k u with j|j
 ·exact h.foot k j
 ·exact .inr (by have:=h.touch.size;omega)
end
section
open Go.Value Go.IntKind
theorem qkr {b:Nat} {lv wv sv:Value} {S:qaf} {log waits:List TxM} (m:TxM) (w:World) (h:qco w b lv wv sv S log waits) (O:qaz w m.wa m.wc m.t.ws/\∀k,m.blk k->¬qas b lv wv sv k) (hs0:0<=m.t.site) (hs1:m.t.site<=3) (hl:S.l.length+m.t.ws.length<=1000) (hlog:log.length<=1000):
 Calls Tryz.prog 129 #[.pointer (some ⟨b,0,none⟩),.agg #[int i64 m.t.site,int i64 m.t.seq,int i64 m.t.wall,int i64 m.t.count,int i64 m.t.d0,int i64 m.t.d1,int i64 m.t.d2,int i64 m.t.d3,.slice m.wa m.t.ws.length m.wc]] w λe w'=>
  e=.returned (.tuple #[])/\∃C r,qco w' b C wv r (qcb S m.t) (log++[m]) waits/\(∀k,qas b C wv r k->qas b lv wv sv k\/w.heap.size<=k)/\qae (qas b lv wv sv) w w':=by
 have hb:=boxed (Below.refl _ w) (.cells #[int i64 m.t.site,int i64 m.t.seq,int i64 m.t.wall,int i64 m.t.count,int i64 m.t.d0,int i64 m.t.d1,int i64 m.t.d2,int i64 m.t.d3,.slice m.wa m.t.ws.length m.wc] 102);have X:=qag.new (w:=w) (T:=102) (txC m) rfl;change qag (w.alloc (.cells #[int i64 m.t.site,int i64 m.t.seq,int i64 m.t.wall,int i64 m.t.count,int i64 m.t.d0,int i64 m.t.d1,int i64 m.t.d2,int i64 m.t.d3,.slice m.wa m.t.ws.length m.wc] 102)) w.heap.size (txC m)at X
 have Y:qn7 w b lv wv sv S log waits m 0 sv (w.alloc (.cells #[int i64 m.t.site,int i64 m.t.seq,int i64 m.t.wall,int i64 m.t.count,int i64 m.t.d0,int i64 m.t.d1,int i64 m.t.d2,int i64 m.t.d3,.slice m.wa m.t.ws.length m.wc] 102)):=
  ⟨by simpa[qgw]using h.later hb,X,λe=>Nat.lt_irrefl _ (h.lt _ e),λj hj=>.inl hj,qae.ofBelow hb⟩
 have P:Hid _:=O;have hc1:=O.1.len;have hc2:=O.1.cap;clear O hb X;go_enter Tryz.func129,Tryz.ntmps129
 go_wp2_with fail
 obtain⟨W,hWW⟩:∃W,w.alloc (.cells #[int i64 m.t.site,int i64 m.t.seq,int i64 m.t.wall,int i64 m.t.count,int i64 m.t.d0,int i64 m.t.d1,int i64 m.t.d2,int i64 m.t.d3,.slice m.wa m.t.ws.length m.wc] 102)=W:=⟨_,rfl⟩;rw[hWW]at Y ⊢;clear hWW
 go_loopw [9] (λiv wr=>∃(k:Nat) (z:Int) (r:Value),k<=m.t.ws.length/\z=k/\iv=int i64 z/\Hid (qn7 w b lv wv sv S log waits m k r wr)) (λi _=>m.t.ws.length-(intOf i).toNat)
 case atStart=>exact⟨0,0,sv,by omega,rfl,rfl,Y⟩
 case round=>
  clear Y;obtain⟨k,z,r,hk,Z,rfl,G⟩:=hrel;have HZ:Hid _:=Z;by_cases H:k<m.t.ws.length
  ·have o:z<(m.t.ws.length:Int):=by omega
   have h2:z.toNat=k:=by omega
   have h3:0<=z:=by omega
   clear Z
   obtain⟨q,D,Q,hcc⟩:∃q D,m.wa=some ⟨q,D,none⟩/\qd4 w q D m.t.ws:=by
        rcases P.out.1.held with h0|h0
        ·rw[h0]at H;simp at H
        ·exact h0
   have hblk:m.blk q:=⟨λe=>by rw[e]at H;simp at H,D,Q⟩;have hwl:=P.out.1.blk_lt q hblk;have R:=G.out.touch.block q hwl (P.out.2 q hblk);obtain⟨⟨a,c,d⟩,hx⟩:∃x,qgi m.t.ws k=x:=⟨_,rfl⟩;have I:=hcc k H;rw[hx]at I
   have x0:wr.cell? ⟨q,D+k*3,none⟩=some (int i64 a):=by rw[World.cell?_of_block (w:=w) R];exact I.1
   have x1:wr.cell? ⟨q,D+k*3+1,none⟩=some (.string c):=by rw[World.cell?_of_block (w:=w) R];exact I.2.1
   have x2:wr.cell? ⟨q,D+k*3+2,none⟩=some (.bool d):=by rw[World.cell?_of_block (w:=w) R];exact I.2.2
   have HX:Hid _:=hx;have HWA:Hid _:=Q;rw[Q];clear hcc hblk R I hx Q hwl;have hbx:=boxed (Below.refl _ wr) (.cells #[int i64 a,.string c,.bool d] 100);have J:=(G.out.later hbx).later (Below.refl _ (wr.alloc (.cells #[int i64 a,.string c,.bool d] 100))).drew;have U:=(qag.new (w:=wr) (T:=100) [int i64 a,.string c,.bool d] rfl).drew;change qag (wr.alloc (.cells #[int i64 a,.string c,.bool d] 100)).drew wr.heap.size [int i64 a,.string c,.bool d]at U;have SB:ApB w.heap.size wr.heap.size (txC m) [int i64 a,.string c,.bool d] (wr.alloc (.cells #[int i64 a,.string c,.bool d] 100)).drew:=⟨J.box,U⟩
   have hll:(qgw m.t (m.t.ws.take k) S.l).length<=1000:=by
        have:=qg5 m.t (m.t.ws.take k) S.l;rw[List.length_take]at this;omega
   have PU:Hid (Calls Tryz.prog 181 #[.pointer (some ⟨b,9,none⟩),int i64 a,.agg #[int i64 m.t.wall,int i64 m.t.count,int i64 m.t.site,int i64 m.t.seq,.string c,.bool d]] (wr.alloc (.cells #[int i64 a,.string c,.bool d] 100)).drew λe w'=>e=.returned (int i64 (qig (qgw m.t (m.t.ws.take k) S.l) a ⟨m.t.wall,m.t.count,m.t.site,m.t.seq,c,d⟩))/\ApB w.heap.size wr.heap.size (txC m) [int i64 a,.string c,.bool d] w'/\∃y,Hid (qn7 w b lv wv sv S log waits m (k+1) y w')):=
        (q8d a ⟨m.t.wall,m.t.count,m.t.site,m.t.seq,c,d⟩ _ J.mem.st hll).mono λe w' ⟨he,hp⟩=>⟨he,J.outside hp U (λhf=>Nat.lt_irrefl _ (G.out.mem.lt _ hf)),J.put H (by rw[HX.out];exact hp)⟩
   have T0:=λ(w':World) (h:ApB w.heap.size wr.heap.size (txC m) [int i64 a,.string c,.bool d] w')=>h.t.cell 0 _ rfl;have T1:=λ(w':World) (h:ApB w.heap.size wr.heap.size (txC m) [int i64 a,.string c,.bool d] w')=>h.t.cell 1 _ rfl;have T2:=λ(w':World) (h:ApB w.heap.size wr.heap.size (txC m) [int i64 a,.string c,.bool d] w')=>h.t.cell 2 _ rfl;have T3:=λ(w':World) (h:ApB w.heap.size wr.heap.size (txC m) [int i64 a,.string c,.bool d] w')=>h.t.cell 3 _ rfl;have X0:=λ(w':World) (h:ApB w.heap.size wr.heap.size (txC m) [int i64 a,.string c,.bool d] w')=>h.x.cell 0 _ rfl;have X1:=λ(w':World) (h:ApB w.heap.size wr.heap.size (txC m) [int i64 a,.string c,.bool d] w')=>h.x.cell 1 _ rfl;have X2:=λ(w':World) (h:ApB w.heap.size wr.heap.size (txC m) [int i64 a,.string c,.bool d] w')=>h.x.cell 2 _ rfl;clear J U hbx hll G
   go_wp2_with fail
   go_region_held3 (λw'=>ApB w.heap.size wr.heap.size (txC m) [int i64 a,.string c,.bool d] w') (with_reducible assumption)
        (first|(go_at_call 181;with_reducible refine PU.out.mono ?_;rintro e E ⟨rfl,SB5,y,AM3⟩))
   all_goals
        go_wp2_with fail
        go_roundw
        case rel=>exact⟨k+1,z+1,y,by omega,by have:=HZ.out;omega,by go_num,AM3⟩
        case measure=>simp[intOf];have:=HZ.out;omega
  ·have h4:¬z<(m.t.ws.length:Int):=by omega
   obtain rfl:k=m.t.ws.length:=by omega
   clear Z
   have K:Hid (ApE w b lv wv sv {S with l:=qgw m.t m.t.ws S.l} log waits m r wr):=by
        have L:=G.out;refine⟨?_,L.box,L.far,L.foot,L.touch⟩;have:=L.mem;rw[List.take_length]at this;exact this
   have BX:=K.out.box;have t0:=BX.cell 0 _ rfl;have t1:=BX.cell 1 _ rfl;have s1:=K.out.mem.box.free (1+m.t.site.toNat) (by simp[qc5];omega);obtain⟨ov,s0⟩:∃v,wr.cell? ⟨b,1+m.t.site.toNat,none⟩=some v:=⟨_,K.out.mem.box.cell (1+m.t.site.toNat) _ (List.getElem?_eq_getElem (by simp[qc5];omega))⟩
   go_wp2_with fail
   go_region
   have F:Hid _:=(K.out.seq m.t.seq hs0 hs1).later (Below.refl _ _).drew;obtain⟨W1,hW1⟩:∃W1,(wr.setCell ⟨b,1+m.t.site.toNat,none⟩ (int i64 m.t.seq)).drew=W1:=⟨_,rfl⟩;rw[hW1]at F ⊢;clear hW1 K G BX t0 t1 s0 s1;have t2:=Later.cell (F.out.box.cell 2 _ rfl);have t3:=Later.cell (F.out.box.cell 3 _ rfl);have l5:=Later.cell (F.out.mem.box.cell 5 _ rfl);have l6:=Later.cell (F.out.mem.box.cell 6 _ rfl)
   go_wp2_with fail
   refine qaa (by kernel_rfl) (by kernel_rfl) ?_
   repeat (go_big_quiet_step (first|rfl|(go_at_call 182;exact qac (qhf _ _ _ _ _))))
   refine wpQuiet_nil ?_;rintro E ⟨⟨_,hb7⟩,rfl⟩;have n:Hid _:=F.out.later hb7;clear F hb7 t2 t3 l5 l6
   have V:∀(S9:qaf) (p:World),Hid (ApE w b lv wv sv S9 log waits m r p)->{S9 with log:=S.log++[m.t]}=qcb S m.t->∀(g B:Nat) (s:World),(p.drew.alloc (.cells #[int i64 m.t.site,int i64 m.t.seq,int i64 m.t.wall,int i64 m.t.count,int i64 m.t.d0,int i64 m.t.d1,int i64 m.t.d2,int i64 m.t.d3,.slice m.wa m.t.ws.length m.wc] 102)).grownBy s lv.ownBlock->
    s.ownsRow 0 102 9 (.slice (some ⟨g,0,none⟩) (log.length+1) B) (log.length+1) (qfi log++txC m)->(lv.ownBlock=some g\/g=(p.drew.alloc (.cells #[int i64 m.t.site,int i64 m.t.seq,int i64 m.t.wall,int i64 m.t.count,int i64 m.t.d0,int i64 m.t.d1,int i64 m.t.d2,int i64 m.t.d3,.slice m.wa m.t.ws.length m.wc] 102)).heap.size)->
    Hid (∃C y,qco (s.setCell ⟨b,7,none⟩ (.slice (some ⟨g,0,none⟩) (log.length+1) B)) b C wv y (qcb S m.t) (log++[m]) waits/\(∀k,qas b C wv y k->qas b lv wv sv k\/w.heap.size<=k)/\qae (qas b lv wv sv) w (s.setCell ⟨b,7,none⟩ (.slice (some ⟨g,0,none⟩) (log.length+1) B))):=λS9 p A e g B s gr ow eg=>by
        have A':=A.out.later (boxed ((Below.refl _ p).drew) (.cells #[int i64 m.t.site,int i64 m.t.seq,int i64 m.t.wall,int i64 m.t.count,int i64 m.t.d0,int i64 m.t.d1,int i64 m.t.d2,int i64 m.t.d3,.slice m.wa m.t.ws.length m.wc] 102));obtain⟨C,y,o,h2,h3⟩:=A'.append P.out gr ow (eg.imp id (λe=>Nat.le_of_eq e.symm));rw[<-e];exact⟨C,y,⟨o.box,o.rlog,o.rwait,o.own,o.ok,o.nl,o.nw,o.ns,o.lw,o.ls,o.ws,o.hold⟩,h2,h3⟩
   obtain⟨i0,hi,hz0,hz1,hz2⟩:=info_parts qsz;cases hd:decide (0<qkj m.t.wall m.t.count S.lw S.lc)
   ·have AP:=V _ E n (by simp only[qcb];have:=of_decide_eq_false hd;simp[this]);obtain⟨t0,t1,t2,t3,t4,t5,t6,t7,t8⟩:=n.out.box.c9;have s7:=n.out.mem.box.cell 7 _ rfl;have f7:=n.out.mem.box.free 7 (by simp[qc5]);have own6:E.drew.ownsRow 0 102 9 lv log.length (qfi log):=n.out.mem.rlog;have hsb:=n.out.mem.box.lt;have nb:some b≠lv.ownBlock:=λe=>n.out.mem.nl e.symm;have bx:qag E b (qc5 _ lv wv r):=n.out.mem.box;clear V
    go_wp2_with fail
    go_region_law (refine step_append_lies _ rfl (.tmp 56) (.tmp 58) 80 rfl 0 102 i0 (.agg #[int i64 0,int i64 0,int i64 0,int i64 0,int i64 0,int i64 0,int i64 0,int i64 0,.slice none 0 0]) 9 88 Tryz.underlying80 hi hz0 hz1 hz2 rfl (by decide) lv log.length (qfi log) (by simp[Act.eval]) (own6.alloc _) ⟨E.heap.size,0,none⟩ 1 1 (txC m) (by simp[Act.eval]) rfl (World.news_of_block (heap_alloc_new E.drew (.cells #[int i64 m.t.site,int i64 m.t.seq,int i64 m.t.wall,int i64 m.t.count,int i64 m.t.d0,int i64 m.t.d1,int i64 m.t.d2,int i64 m.t.d3,.slice m.wa m.t.ws.length m.wc] 102))) (qk5 m) (by decide) (by simp only[maxLen];omega) (by omega) (by simp) _ rfl ?_
                   intro g B s ownE M egE ltE;have FIN:=AP g B s M ownE egE;have N:=((bx.drew).boxed (.cells #[int i64 m.t.site,int i64 m.t.seq,int i64 m.t.wall,int i64 m.t.count,int i64 m.t.d0,int i64 m.t.d1,int i64 m.t.d2,int i64 m.t.d3,.slice m.wa m.t.ws.length m.wc] 102)).grown M nb;have s0E:=N.cell 7 _ rfl
                   have s1E:=N.free 7 (by simp[qc5]))
    all_goals
     go_wp2_with fail
     go_end0;exact⟨rfl,FIN.out⟩
   ·have k2:=n.out.box.cell 2 _ rfl;have k3:=n.out.box.cell 3 _ rfl;have k5:=n.out.mem.box.cell 5 _ rfl;have k6:=n.out.mem.box.cell 6 _ rfl;have q5:=n.out.mem.box.free 5 (by simp[qc5]);have q6:=n.out.mem.box.free 6 (by simp[qc5])
    go_wp2_with fail
    have u:Hid _:=n.out.last m.t.wall m.t.count;obtain⟨p,hw6⟩:∃p,(E.setCell ⟨b,5,none⟩ (int i64 m.t.wall)).setCell ⟨b,6,none⟩ (int i64 m.t.count)=p:=⟨_,rfl⟩;rw[hw6]at u ⊢;clear hw6 n k2 k3 k5 k6 q5 q6;have AP:=V _ p u (by simp only[qcb];have:=of_decide_eq_true hd;simp[this]);obtain⟨t0,t1,t2,t3,t4,t5,t6,t7,t8⟩:=u.out.box.c9;have s7:=u.out.mem.box.cell 7 _ rfl;have f7:=u.out.mem.box.free 7 (by simp[qc5]);have own6:p.drew.ownsRow 0 102 9 lv log.length (qfi log):=u.out.mem.rlog;have hsb:=u.out.mem.box.lt;have nb:some b≠lv.ownBlock:=λe=>u.out.mem.nl e.symm;have bx:qag p b (qc5 _ lv wv r):=u.out.mem.box;clear V
    go_wp2_with fail
    go_region_law (refine step_append_lies _ rfl (.tmp 56) (.tmp 58) 80 rfl 0 102 i0 (.agg #[int i64 0,int i64 0,int i64 0,int i64 0,int i64 0,int i64 0,int i64 0,int i64 0,.slice none 0 0]) 9 88 Tryz.underlying80 hi hz0 hz1 hz2 rfl (by decide) lv log.length (qfi log) (by simp[Act.eval]) (own6.alloc _) ⟨p.heap.size,0,none⟩ 1 1 (txC m) (by simp[Act.eval]) rfl (World.news_of_block (heap_alloc_new p.drew (.cells #[int i64 m.t.site,int i64 m.t.seq,int i64 m.t.wall,int i64 m.t.count,int i64 m.t.d0,int i64 m.t.d1,int i64 m.t.d2,int i64 m.t.d3,.slice m.wa m.t.ws.length m.wc] 102))) (qk5 m) (by decide) (by simp only[maxLen];omega) (by omega) (by simp) _ rfl ?_
                   intro g B s ownE M egE ltE;have FIN:=AP g B s M ownE egE;have N:=((bx.drew).boxed (.cells #[int i64 m.t.site,int i64 m.t.seq,int i64 m.t.wall,int i64 m.t.count,int i64 m.t.d0,int i64 m.t.d1,int i64 m.t.d2,int i64 m.t.d3,.slice m.wa m.t.ws.length m.wc] 102)).grown M nb;have s0E:=N.cell 7 _ rfl
                   have s1E:=N.free 7 (by simp[qc5]))
    all_goals
     go_wp2_with fail
     go_end0;exact⟨rfl,FIN.out⟩
end
section
open Go.Value Go.IntKind
theorem qp3 {b:Nat} {lv wv sv:Value} {S:qaf} {log waits:List TxM} (a c d l:Int) (w:World) (h:qco w b lv wv sv S log waits) (hs:∀m∈log,0<=m.t.site/\m.t.site<=3) (hl:log.length<=1000):
 Calls Tryz.prog 85 #[.pointer (some ⟨b,0,none⟩),.agg #[int i64 a,int i64 c,int i64 d,int i64 l]] w λe w'=>
  ∃v,e=.returned v/\w'.ownsRow (w.heap.size+1) 102 9 v (log.filter (qgl a c d l)).length (qfi (log.filter (qgl a c d l)))/\Below w.heap.size w w':=by
 obtain⟨la,lc,rfl,H⟩:=qbl h.rlog;have hc1:=H.len;have hc2:=H.cap;have p:=qa9.new w 77 a c d l;have hb:=boxed (Below.refl _ w) (.cells #[int i64 a,int i64 c,int i64 d,int i64 l] 77);have M:=cell_later hb (h.box.cell 7 _ rfl);have HH:Hid _:=h;have HS:Hid _:=hs;clear h hs;go_enter Tryz.func85,Tryz.ntmps85
 go_wp2_with fail
 obtain⟨W,N⟩:∃W,w.alloc (.cells #[int i64 a,int i64 c,int i64 d,int i64 l] 77)=W:=⟨_,rfl⟩;rw[N]at p hb M ⊢;clear N M
 go_loopw [5,13] (λsl iv wr=>∃(k:Nat) (z:Int) (kept:List TxM) (x:Value),x=sl/\k<=log.length/\z=k/\iv=int i64 z/\(log.take k).filter (qgl a c d l)=kept/\wr.ownsRow (w.heap.size+1) 102 9 x kept.length (qfi kept)/\qa9 wr w.heap.size a c d l/\Below w.heap.size w wr) (λ_ i _=>log.length-(intOf i).toNat)
 case atStart=>exact⟨0,0,[],_,rfl,by omega,rfl,rfl,by simp,World.ownsRow_nil _ _ _ _,p,hb⟩
 case round=>
  clear p hb;obtain⟨k,z,kept,x,hsl,hk,I,rfl,y,q,p,hb⟩:=hrel;subst hsl;have O:Hid _:=I;by_cases J:k<log.length
  ·have g1:z<(log.length:Int):=by omega
   have g2:z.toNat=k:=by omega
   have g3:0<=z:=by omega
   have hk6:kept.length<=1000:=by
        rw[<-y];have a1:=List.length_filter_le (qgl a c d l) (log.take k);have a2:=List.length_take_le k log;omega
   obtain⟨E,F,hwa,P⟩:∃E F,la=some ⟨E,F,none⟩/\∀i m r u,log[i]?=some m->(txC m)[r]?=some u->w.cell? ⟨E,F+(i*9+r),none⟩=some u:=by
        rcases H.held with e|e
        ·rw[e]at J;simp at J
        ·exact e
   obtain⟨⟨⟨site,seq,wall,count,d0,d1,d2,d3,ws⟩,n,o⟩,G⟩:∃m,log[k]?=some m:=⟨log[k],List.getElem?_eq_getElem J⟩;obtain⟨Q,R⟩:=HS.out _ (List.mem_of_getElem? G);simp only at Q R;have U:Hid _:=G;have V:Hid _:=y;have s:=λr u (hu:(txC ⟨⟨site,seq,wall,count,d0,d1,d2,d3,ws⟩,n,o⟩)[r]?=some u)=>(show wr.cell? ⟨E,F+k*9+r,none⟩=some u by rw[Nat.add_assoc];exact cell_later hb (P k _ r u G hu));have x0:=s 0 _ rfl;have x1:=s 1 _ rfl;have x2:=s 2 _ rfl;have x3:=s 3 _ rfl;have x4:=s 4 _ rfl;have x5:=s 5 _ rfl;have x6:=s 6 _ rfl;have x7:=s 7 _ rfl;have x8:=s 8 _ rfl;rw[Nat.add_zero]at x0;rw[hwa];clear s P G y I;replace p:=p.boxed (.cells #[int i64 site,int i64 seq,int i64 wall,int i64 count,int i64 d0,int i64 d1,int i64 d2,int i64 d3,.slice n ws.length o] 102);replace q:=q.alloc (.cells #[int i64 site,int i64 seq,int i64 wall,int i64 count,int i64 d0,int i64 d1,int i64 d2,int i64 d3,.slice n ws.length o] 102);replace hb:=boxed hb (.cells #[int i64 site,int i64 seq,int i64 wall,int i64 count,int i64 d0,int i64 d1,int i64 d2,int i64 d3,.slice n ws.length o] 102);have B:=qag.new (w:=wr) (T:=102) [int i64 site,int i64 seq,int i64 wall,int i64 count,int i64 d0,int i64 d1,int i64 d2,int i64 d3,.slice n ws.length o] rfl;have X:=Later.cell (B.cell 0 _ rfl);have Y:=Later.cell (B.cell 1 _ rfl);have va:=Later.cell (qoz p Q R);have Z:Hid (qgl a c d l ⟨⟨site,seq,wall,count,d0,d1,d2,d3,ws⟩,n,o⟩=decide (qaq site a c d l<seq)):=rfl
   go_wp2_with fail
   clear x0 x1 x2 x3 x4 x5 x6 x7 x8;refine qaa (by kernel_rfl) (by kernel_rfl) ?_
   repeat (go_big_quiet_step (first|rfl|fail))
   refine wpQuiet_nil ?_;rintro K ⟨⟨_,C⟩,rfl⟩;replace p:=p.later C;replace B:=B.later C;replace q:=qad q (λj D=>C.block j (q.lt j D).2);replace hb:=qab hb C;clear C X Y va;cases hd:decide (qaq site a c d l<seq)
   ·have L:Hid ((log.take (k+1)).filter (qgl a c d l)=kept):=by
     have e:qgl a c d l ⟨⟨site,seq,wall,count,d0,d1,d2,d3,ws⟩,n,o⟩=false:=by rw[Z.out];exact hd
     show (log.take (k+1)).filter (qgl a c d l)=kept;rw[List.take_add_one,U.out,List.filter_append,V.out];simp[e]
    clear hd
    go_wp2_with fail
    go_roundw
    case rel=>exact⟨k+1,z+1,kept,_,rfl,by omega,by have:=O.out;omega,by go_num,L.out,q,p,hb⟩
    case measure=>simp[intOf];omega
   ·have L:Hid ((log.take (k+1)).filter (qgl a c d l)=kept++[⟨⟨site,seq,wall,count,d0,d1,d2,d3,ws⟩,n,o⟩]):=by
     have e:qgl a c d l ⟨⟨site,seq,wall,count,d0,d1,d2,d3,ws⟩,n,o⟩=true:=by rw[Z.out];exact hd
     show (log.take (k+1)).filter (qgl a c d l)=_;rw[List.take_add_one,U.out,List.filter_append,V.out];simp[e]
    obtain⟨X,Y,y2,y3,y4,y5,y6,y7,y8⟩:=B.c9;obtain⟨i0,hi,hz0,hz1,hz2⟩:=info_parts qsz
    have hsz5:w.heap.size+1<=K.heap.size:=by have:=p.lt;omega
    clear hd
    go_wp2_with (at_builtin;refine wpList_append_lies _ rfl (.tmp 24) (.tmp 26) 80 rfl (w.heap.size+1) 102 i0 (.agg #[int i64 0,int i64 0,int i64 0,int i64 0,int i64 0,int i64 0,int i64 0,int i64 0,.slice none 0 0]) 9 88 Tryz.underlying80 hi hz0 hz1 hz2 rfl (by decide) x kept.length (qfi kept) rfl (q.alloc _) ⟨K.heap.size,0,none⟩ 1 1 (txC ⟨⟨site,seq,wall,count,d0,d1,d2,d3,ws⟩,n,o⟩) rfl rfl (World.news_of_block (heap_alloc_new K (.cells #[int i64 site,int i64 seq,int i64 wall,int i64 count,int i64 d0,int i64 d1,int i64 d2,int i64 d3,.slice n ws.length o] 102))) (qk5 _) (by decide) (by simp only[maxLen];omega) (by omega) (by simp;omega) _ rfl ?_;intro g cap9 wE ownE aa egE ltE)
    have ab:∀j,x.ownBlock=some j->w.heap.size+1<=j:=λj D=>(q.lt j D).1;have RAE:=(p.boxed (.cells #[int i64 site,int i64 seq,int i64 wall,int i64 count,int i64 d0,int i64 d1,int i64 d2,int i64 d3,.slice n ws.length o] 102)).grown4 aa (λe=>by have:=ab _ e.symm;omega);have hbE:=(boxed hb (.cells #[int i64 site,int i64 seq,int i64 wall,int i64 count,int i64 d0,int i64 d1,int i64 d2,int i64 d3,.slice n ws.length o] 102)).grown aa (by have:=hb.size;simp;omega) (λj D=>by have:=ab j D;omega)
    go_roundw
    case rel=>exact⟨k+1,z+1,kept++[⟨⟨site,seq,wall,count,d0,d1,d2,d3,ws⟩,n,o⟩],_,rfl,by omega,by have:=O.out;omega,by go_num,L.out,by rw[qlp,List.length_append];exact ownE,RAE,hbE⟩
    case measure=>simp[intOf];omega
  ·have g1:¬z<(log.length:Int):=by omega
   obtain rfl:k=log.length:=by omega
   rw[List.take_length]at y;clear I
   go_wp2_with fail
   go_ret;exact⟨x,rfl,by first|exact q|(rw[y];exact q),hb⟩
end
theorem qn6 (b s cap:Nat) (l:List Wr) (w:World) (H:qd4 w b s l) (M:l.length<=cap) (N:cap<=9223372036854775807):
 Calls Tryz.prog 177 #[.slice (some ⟨b,s,none⟩) l.length cap] w λe w'=>e=.returned (.bool (qe8 l))/\Below w.heap.size w w':=by
 have O:=Later.one;go_enter Tryz.func177,Tryz.ntmps177
 go_wp2
 go_loopw [7] (λi wr=>∃(k:Nat) (z:Int),k<=l.length/\z=k/\i=.int .i64 z/\(∀j,j<k->qjr l j=true)/\Below w.heap.size w wr/\qd4 wr b s l) (λi _=>l.length-(intOf i).toNat)
 case atStart=>exact⟨0,0,by omega,rfl,rfl,λj I=>by omega,Below.refl _ _,H⟩
 case round=>
  obtain⟨k,z,P,v,rfl,y,hb,C⟩:=hrel;have p:Hid _:=y;clear y;by_cases m:k<l.length
  ·obtain⟨x0,x1,x2⟩:=C k m
   have Q:z<(l.length:Int):=by omega
   have R:z.toNat=k:=by omega
   have S:0<=z:=by omega
   have o:Hid _:=v;clear v;obtain⟨⟨key,data,gone⟩,u⟩:∃x,qgi l k=x:=⟨_,rfl⟩;rw[u]at x0 x1 x2;have J:Hid _:=u;clear u;simp only at x0 x1 x2;have d:=boxed hb (.cells #[.int .i64 key,.string data,.bool gone] 100);have q:=C.later (boxed (Below.refl _ wr) (.cells #[.int .i64 key,.string data,.bool gone] 100))
   have B:(wr.alloc (.cells #[.int .i64 key,.string data,.bool gone] 100)).cell? ⟨wr.heap.size,0,none⟩=some (.int .i64 key):=by go_simp
   have D:(wr.alloc (.cells #[.int .i64 key,.string data,.bool gone] 100)).cell? ⟨wr.heap.size,1,none⟩=some (.string data):=by go_simp
   have E:(wr.alloc (.cells #[.int .i64 key,.string data,.bool gone] 100)).cell? ⟨wr.heap.size,2,none⟩=some (.bool gone):=by go_simp
   have ok:=qoi J.out;replace B:=Later.cell B;replace D:=Later.cell D;replace E:=Later.cell E;cases p1:inB key 0 7
   ·skip
    have c:Hid (qjr l k=false):=by rw[ok];exact qw5 p1
    clear ok
    go_wp2_with fail
    clear x0 x1 x2;refine qaa (by kernel_rfl) (by kernel_rfl) ?_
    repeat (go_big_quiet_step ((go_at_call 28;with_reducible exact qac (qax p1 _))))
    refine wpQuiet_nil ?_;rintro g ⟨⟨_,a⟩,rfl⟩
    go_wp2
    go_ret;exact⟨by rw[qf6 m c.out];rfl,qab d a⟩
   ·by_cases F:k=0
    ·have K:decide (0<z)=false:=decide_eq_false (by have:=o.out;omega);have G:Hid _:=F;clear F;by_cases h:12<(data.size:Int)
     ·skip
      have c:Hid (qjr l k=false):=by rw[ok];exact qv7 h
      clear ok
      go_wp2_with fail
      clear x0 x1 x2;refine qaa (by kernel_rfl) (by kernel_rfl) ?_
      repeat (go_big_quiet_step ((go_at_call 28;with_reducible exact qac (qax p1 _))))
      refine wpQuiet_nil ?_;rintro g ⟨⟨_,a⟩,rfl⟩
      go_wp2
      go_ret;exact⟨by rw[qf6 m c.out];rfl,qab d a⟩
     ·have L:decide (12<(data.size:Int))=false:=decide_eq_false h;cases gone
      ·skip
       have n:Hid (qjr l k=true):=by rw[ok];exact qj2 p1 (.inl G.out) h (.inl rfl)
       clear ok
       go_wp2_with fail
       clear x0 x1 x2;refine qaa (by kernel_rfl) (by kernel_rfl) ?_
       repeat (go_big_quiet_step ((go_at_call 28;with_reducible exact qac (qax p1 _))))
       refine wpQuiet_nil ?_;rintro g ⟨⟨_,a⟩,rfl⟩
       go_wp2
       go_roundw
       case rel=>exact⟨k+1,z+1,by omega,by have:=o.out;omega,by go_num,qos p.out n.out,qab d a,q.later a⟩
       case measure=>simp[intOf];omega
      ·cases he:data.toList.isEmpty
       ·skip
        have c:Hid (qjr l k=false):=by rw[ok];exact qrs rfl he
        clear ok
        go_wp2_with fail
        clear x0 x1 x2;refine qaa (by kernel_rfl) (by kernel_rfl) ?_
        repeat (go_big_quiet_step ((go_at_call 28;with_reducible exact qac (qax p1 _))))
        refine wpQuiet_nil ?_;rintro g ⟨⟨_,a⟩,rfl⟩
        go_wp2
        go_ret;exact⟨by rw[qf6 m c.out];rfl,qab d a⟩
       ·skip
        have n:Hid (qjr l k=true):=by rw[ok];exact qj2 p1 (.inl G.out) h (.inr he)
        clear ok
        go_wp2_with fail
        clear x0 x1 x2;refine qaa (by kernel_rfl) (by kernel_rfl) ?_
        repeat (go_big_quiet_step ((go_at_call 28;with_reducible exact qac (qax p1 _))))
        refine wpQuiet_nil ?_;rintro g ⟨⟨_,a⟩,rfl⟩
        go_wp2
        go_roundw
        case rel=>exact⟨k+1,z+1,by omega,by have:=o.out;omega,by go_num,qos p.out n.out,qab d a,q.later a⟩
        case measure=>simp[intOf];omega
    ·have K:0<z:=by have:=o.out;omega
     obtain⟨v0,_,_⟩:=q (k-1) (by omega)
     have T:(z-1).toNat=k-1:=by omega
     have U:0<=z-1:=by omega
     have V:z-1<(l.length:Int):=by omega
     replace v0:=Later.cell v0;by_cases r:key<=(qgi l (k-1)).key
     ·skip
      have c:Hid (qjr l k=false):=by rw[ok];exact qx0 (by omega) r
      clear ok
      go_wp2_with fail
      clear x0 x1 x2;refine qaa (by kernel_rfl) (by kernel_rfl) ?_
      repeat (go_big_quiet_step ((go_at_call 28;with_reducible exact qac (qax p1 _))))
      refine wpQuiet_nil ?_;rintro g ⟨⟨_,a⟩,rfl⟩
      go_wp2
      go_ret;exact⟨by rw[qf6 m c.out];rfl,qab d a⟩
     ·have W:decide (key<=(qgi l (k-1)).key)=false:=decide_eq_false r;by_cases h:12<(data.size:Int)
      ·skip
       have c:Hid (qjr l k=false):=by rw[ok];exact qv7 h
       clear ok
       go_wp2_with fail
       clear x0 x1 x2;refine qaa (by kernel_rfl) (by kernel_rfl) ?_
       repeat (go_big_quiet_step ((go_at_call 28;with_reducible exact qac (qax p1 _))))
       refine wpQuiet_nil ?_;rintro g ⟨⟨_,a⟩,rfl⟩
       go_wp2
       go_ret;exact⟨by rw[qf6 m c.out];rfl,qab d a⟩
      ·have L:decide (12<(data.size:Int))=false:=decide_eq_false h;cases gone
       ·skip
        have n:Hid (qjr l k=true):=by rw[ok];exact qj2 p1 (.inr r) h (.inl rfl)
        clear ok
        go_wp2_with fail
        clear x0 x1 x2;refine qaa (by kernel_rfl) (by kernel_rfl) ?_
        repeat (go_big_quiet_step ((go_at_call 28;with_reducible exact qac (qax p1 _))))
        refine wpQuiet_nil ?_;rintro g ⟨⟨_,a⟩,rfl⟩
        go_wp2
        go_roundw
        case rel=>exact⟨k+1,z+1,by omega,by have:=o.out;omega,by go_num,qos p.out n.out,qab d a,q.later a⟩
        case measure=>simp[intOf];omega
       ·cases he:data.toList.isEmpty
        ·skip
         have c:Hid (qjr l k=false):=by rw[ok];exact qrs rfl he
         clear ok
         go_wp2_with fail
         clear x0 x1 x2;refine qaa (by kernel_rfl) (by kernel_rfl) ?_
         repeat (go_big_quiet_step ((go_at_call 28;with_reducible exact qac (qax p1 _))))
         refine wpQuiet_nil ?_;rintro g ⟨⟨_,a⟩,rfl⟩
         go_wp2
         go_ret;exact⟨by rw[qf6 m c.out];rfl,qab d a⟩
        ·skip
         have n:Hid (qjr l k=true):=by rw[ok];exact qj2 p1 (.inr r) h (.inr he)
         clear ok
         go_wp2_with fail
         clear x0 x1 x2;refine qaa (by kernel_rfl) (by kernel_rfl) ?_
         repeat (go_big_quiet_step ((go_at_call 28;with_reducible exact qac (qax p1 _))))
         refine wpQuiet_nil ?_;rintro g ⟨⟨_,a⟩,rfl⟩
         go_wp2
         go_roundw
         case rel=>exact⟨k+1,z+1,by omega,by have:=o.out;omega,by go_num,qos p.out n.out,qab d a,q.later a⟩
         case measure=>simp[intOf];omega
  ·go_wp2_with (go_at_call 28;refine(qjl _ _ _ _).mono ?_;rintro e X ⟨rfl,rfl⟩)
   go_ret;exact⟨by rw[qyk (λj I=>p.out j (by omega))];rfl,hb⟩
theorem qqb (a:Option Addr) (cap:Nat) (w:World):
 Calls Tryz.prog 177 #[.slice a 0 cap] w λe w'=>e=.returned (.bool false)/\Below w.heap.size w w':=by
 go_enter Tryz.func177,Tryz.ntmps177
 go_wp2
 refine wp_loop_rounds 1 ?_;rw[rounds_succ]
 go_wp2_with (go_at_call 28;refine(qjl _ _ _ _).mono ?_;rintro e b ⟨rfl,rfl⟩)
 go_ret;exact⟨rfl,Below.refl _ _⟩
theorem qa7 {a:Option Addr} {cap:Nat} {l:List Wr} {w:World} (h:qaz w a cap l):
 Calls Tryz.prog 177 #[.slice a l.length cap] w λe w'=>e=.returned (.bool (qe8 l))/\Below w.heap.size w w':=by
 rcases h.held with rfl|⟨b,c,rfl,d⟩
 ·exact qqb a cap w
 ·exact qn6 b c cap l w d h.len h.cap
section
open Go.Value Go.IntKind
theorem qo2 (lw lc now:Int) (w:World):
 Calls Tryz.prog 179 #[.agg #[int i64 lw,int i64 lc],int i64 now] w λe w'=>e=.returned (.tuple #[.agg #[int i64 (qfp lw lc now).1,int i64 (qfp lw lc now).2.1],int i64 (qfp lw lc now).2.2])/\Below w.heap.size w w':=by
 unfold qfp;cases h:(qal lw&&qal lc)
 ·rw[if_pos rfl];exact qpw lw lc now w h
 ·rw[if_neg (by decide)]
  have hb:0<=lc/\lc<=1099511627776:=by
   have g:=h;simp[qal]at g;omega
  cases h2:qal now
  ·rw[if_pos rfl];exact qp4 lw lc now w h h2
  ·rw[if_neg (by decide)];by_cases c:lw<now
   ·rw[if_pos c];exact quc lw lc now w h h2 c
   ·rw[if_neg c];by_cases d:1099511627776<lc+1
    ·rw[if_pos d];exact qt0 lw lc now w h h2 c hb.1 hb.2 d
    ·rw[if_neg d];exact qsl lw lc now w h h2 c hb.1 hb.2 d
theorem qbj {a0 a1 a2 a3 c d g i:Int} {v:Bool} (h:qfu a0 a1 a2 a3 c d g i=v) (w:World):
 Calls Tryz.prog 77 #[.agg #[int i64 a0,int i64 a1,int i64 a2,int i64 a3],.agg #[int i64 c,int i64 d,int i64 g,int i64 i]] w λe w'=>e=.returned (.bool v)/\Below w.heap.size w w':=by
 subst h;exact qmd a0 a1 a2 a3 c d g i w
variable {b:Nat} {a:Option Addr}
theorem qdp {tmps:Array Value} {w:World} {x0 x1 x2 x3 d e g i ev:Int} {n c:Nat} (h:qag w b [int i64 x0,int i64 x1,int i64 x2,int i64 x3,int i64 d,int i64 e,int i64 g,int i64 i,.slice a n c]) (j:tmps[8]?=some (.pointer (some ⟨b,0,none⟩))) (k:tmps[9]?=some (int i64 ev)):
 (results Tryz.f127 tmps).run Tryz.prog w=.ok (.tuple #[.agg #[int i64 x0,int i64 x1,int i64 x2,int i64 x3,int i64 d,int i64 e,int i64 g,int i64 i,.slice a n c],int i64 ev]) w:=by
 obtain⟨z0,l,z2,z3,z4,z5,m,o,p⟩:=h.c9;simp[results,Tryz.results127,go_sem,j,k,z0,l,z2,z3,z4,z5,m,o,p]
def qs6 (w:World) (b:Nat) (lv wv sv:Value) (S:qaf) (log waits:List TxM) (now d0 d1 d2 d3:Int) (ws:List Wr) (e:Ending) (w':World):Prop:=
 (qa1 S log.length now d0 d1 d2 d3 ws≠0/\e=.returned (.tuple #[.agg #[int i64 0,int i64 0,int i64 0,int i64 0,int i64 0,int i64 0,int i64 0,int i64 0,.slice none 0 0],int i64 (qa1 S log.length now d0 d1 d2 d3 ws)])/\Below w.heap.size w w')\/
 (qa1 S log.length now d0 d1 d2 d3 ws=0/\∃(wa:Option Addr) (wc:Nat) (lv' sv':Value),e=.returned (.tuple #[.agg (txC ⟨qcd S now d0 d1 d2 d3 ws,wa,wc⟩).toArray,int i64 0])/\
    qco w' b lv' wv sv' (qcb S (qcd S now d0 d1 d2 d3 ws)) (log++[⟨qcd S now d0 d1 d2 d3 ws,wa,wc⟩]) waits/\(∀k,qas b lv' wv sv' k->qas b lv wv sv k\/w.heap.size<=k)/\qae (qas b lv wv sv) w w')
theorem qtp {lv wv sv:Value} {S:qaf} {log waits:List TxM} (now d0 d1 d2 d3:Int) {cap:Nat} {ws:List Wr} (w:World) (h:qco w b lv wv sv S log waits) (Q:qaz w a cap ws) (ab:qa1 S log.length now d0 d1 d2 d3 ws≠0):
 Calls Tryz.prog 127 #[.pointer (some ⟨b,0,none⟩),int i64 now,.agg #[int i64 d0,int i64 d1,int i64 d2,int i64 d3],.slice a ws.length cap] w (qs6 w b lv wv sv S log waits now d0 d1 d2 d3 ws):=by
 obtain⟨la,lc,rfl,hT⟩:=qbl h.rlog;have hc1:=hT.len;have hc2:=hT.cap;have g:=(qa9.new w 77 d0 d1 d2 d3).boxed (.cells #[int i64 0,int i64 0,int i64 0,int i64 0,int i64 0,int i64 0,int i64 0,int i64 0,.slice none 0 0] 102);have c:qag ((w.alloc (.cells #[int i64 d0,int i64 d1,int i64 d2,int i64 d3] 77)).alloc (.cells #[int i64 0,int i64 0,int i64 0,int i64 0,int i64 0,int i64 0,int i64 0,int i64 0,.slice none 0 0] 102)) (w.heap.size+1) txZ:=qag.new (w:=w.alloc (.cells #[int i64 d0,int i64 d1,int i64 d2,int i64 d3] 77)) (T:=102) (n:=w.heap.size+1) [int i64 0,int i64 0,int i64 0,int i64 0,int i64 0,int i64 0,int i64 0,int i64 0,.slice none 0 0] (by simp);have hb:=boxed (boxed (Below.refl _ w) (.cells #[int i64 d0,int i64 d1,int i64 d2,int i64 d3] 77)) (.cells #[int i64 0,int i64 0,int i64 0,int i64 0,int i64 0,int i64 0,int i64 0,int i64 0,.slice none 0 0] 102);have WI:=Q.later hb;have HH:Hid _:=h;have HW:Hid _:=Q
 have p:w.heap.size<=w.heap.size+1:=by omega
 have HNE:Hid _:=ab;clear h Q ab;go_enter Tryz.func127,Tryz.ntmps127
 go_wp2_with fail
 refine(qa7 WI).mono ?_;rintro e w1 ⟨rfl,u⟩;replace g:=g.later u;replace c:=c.later u;replace hb:=qab hb u;clear u WI;have i:∀(R:World) (ev:Int),qa1 S log.length now d0 d1 d2 d3 ws=ev->ev≠0->Below w.heap.size w R->Hid (qs6 w b (.slice la log.length lc) wv sv S log waits now d0 d1 d2 d3 ws (.returned (.tuple #[.agg #[int i64 0,int i64 0,int i64 0,int i64 0,int i64 0,int i64 0,int i64 0,int i64 0,.slice none 0 0],int i64 ev])) R):=λR ev U h2 h3=>.inl ⟨by rw[U];exact h2,by rw[U],h3⟩;cases hok:qe8 ws
 ·have E:Hid (qa1 S log.length now d0 d1 d2 d3 ws=1):=by show qa1 S log.length now d0 d1 d2 d3 ws=1;unfold qa1;rw[if_pos hok]
  have v:=c.cell 0 _ rfl;have p0:=c.free 0 (by simp[txZ]);have y:=c.cell 1 _ rfl;have p1:=c.free 1 (by simp[txZ]);have z:=c.cell 2 _ rfl;have p2:=c.free 2 (by simp[txZ]);have B:=c.cell 3 _ rfl;have p3:=c.free 3 (by simp[txZ]);have C:=c.cell 4 _ rfl;have D:=c.free 4 (by simp[txZ]);have F:=c.cell 5 _ rfl;have G:=c.free 5 (by simp[txZ]);have H:=c.cell 6 _ rfl;have I:=c.free 6 (by simp[txZ]);have J:=c.cell 7 _ rfl;have K:=c.free 7 (by simp[txZ]);have L:=c.cell 8 _ rfl;have M:=c.free 8 (by simp[txZ]);have j:=qb3 c rfl 0 0 0 0 0 0 0 0 (.slice none 0 0);have k:=qg3 hb p 0 0 0 0 0 0 0 0 (.slice none 0 0);have l:=i _ 1 E.out (by decide) k;clear i hok
  go_wp2_with fail
  exact bodyPost_ret (qdp j rfl rfl) rfl l.out
 ·have N:Hid _:=hok;clear hok;have m:Hid _:=HH.out.later hb;have c0:=Later.cell g.c0;have c1:=Later.cell g.c1;have c2:=Later.cell g.c2;have c3:=Later.cell g.c3;have V:=Later.cell (m.out.box.cell 1 _ rfl);have W:=Later.cell (m.out.box.cell 2 _ rfl);have X:=Later.cell (m.out.box.cell 3 _ rfl);have Y:=Later.cell (m.out.box.cell 4 _ rfl);cases hv:qay d0 d1 d2 d3
  ·have o:Hid _:=hv
   have E:Hid (qa1 S log.length now d0 d1 d2 d3 ws=10):=by show qa1 S log.length now d0 d1 d2 d3 ws=10;unfold qa1;rw[if_neg (by rw[N.out];decide),if_pos hv]
   clear hv
   go_wp2_with fail
   refine qaa (by kernel_rfl) (by kernel_rfl) ?_
   repeat (go_big_quiet_step (first|rfl|(go_at_call 178;with_reducible exact qac (qat o.out _))))
   refine wpQuiet_nil ?_;rintro w2 ⟨⟨_,d⟩,rfl⟩;replace c:=c.later d;replace hb:=qab hb d;clear d c0 c1 c2 c3 V W X Y m;have v:=c.cell 0 _ rfl;have p0:=c.free 0 (by simp[txZ]);have y:=c.cell 1 _ rfl;have p1:=c.free 1 (by simp[txZ]);have z:=c.cell 2 _ rfl;have p2:=c.free 2 (by simp[txZ]);have B:=c.cell 3 _ rfl;have p3:=c.free 3 (by simp[txZ]);have C:=c.cell 4 _ rfl;have D:=c.free 4 (by simp[txZ]);have F:=c.cell 5 _ rfl;have G:=c.free 5 (by simp[txZ]);have H:=c.cell 6 _ rfl;have I:=c.free 6 (by simp[txZ]);have J:=c.cell 7 _ rfl;have K:=c.free 7 (by simp[txZ]);have L:=c.cell 8 _ rfl;have M:=c.free 8 (by simp[txZ]);have j:=qb3 c rfl 0 0 0 0 0 0 0 0 (.slice none 0 0);have k:=qg3 hb p 0 0 0 0 0 0 0 0 (.slice none 0 0);have l:=i _ 10 E.out (by decide) k;clear i
   go_wp2_with fail
   exact bodyPost_ret (qdp j rfl rfl) rfl l.out
  ·have o:Hid _:=hv;clear hv;cases hc:qfu S.a0 S.a1 S.a2 S.a3 d0 d1 d2 d3
   ·have q:Hid _:=hc
    have E:Hid (qa1 S log.length now d0 d1 d2 d3 ws=10):=by show qa1 S log.length now d0 d1 d2 d3 ws=10;unfold qa1;rw[if_neg (by rw[N.out];decide),if_neg (by rw[o.out];decide),if_pos hc]
    clear hc
    go_wp2_with fail
    refine qaa (by kernel_rfl) (by kernel_rfl) ?_
    repeat (go_big_quiet_step (first|rfl|(go_at_call 178;with_reducible exact qac (qat o.out _))|(go_at_call 77;with_reducible exact qac (qbj q.out _))))
    refine wpQuiet_nil ?_;rintro w2 ⟨⟨_,d⟩,rfl⟩;replace c:=c.later d;replace hb:=qab hb d;clear d c0 c1 c2 c3 V W X Y m;have v:=c.cell 0 _ rfl;have p0:=c.free 0 (by simp[txZ]);have y:=c.cell 1 _ rfl;have p1:=c.free 1 (by simp[txZ]);have z:=c.cell 2 _ rfl;have p2:=c.free 2 (by simp[txZ]);have B:=c.cell 3 _ rfl;have p3:=c.free 3 (by simp[txZ]);have C:=c.cell 4 _ rfl;have D:=c.free 4 (by simp[txZ]);have F:=c.cell 5 _ rfl;have G:=c.free 5 (by simp[txZ]);have H:=c.cell 6 _ rfl;have I:=c.free 6 (by simp[txZ]);have J:=c.cell 7 _ rfl;have K:=c.free 7 (by simp[txZ]);have L:=c.cell 8 _ rfl;have M:=c.free 8 (by simp[txZ]);have j:=qb3 c rfl 0 0 0 0 0 0 0 0 (.slice none 0 0);have k:=qg3 hb p 0 0 0 0 0 0 0 0 (.slice none 0 0);have l:=i _ 10 E.out (by decide) k;clear i
    go_wp2_with fail
    exact bodyPost_ret (qdp j rfl rfl) rfl l.out
   ·have q:Hid _:=hc;clear hc
    go_wp2_with fail
    refine qaa (by kernel_rfl) (by kernel_rfl) ?_
    repeat (go_big_quiet_step (first|rfl|(go_at_call 178;with_reducible exact qac (qat o.out _))|(go_at_call 77;with_reducible exact qac (qbj q.out _))))
    refine wpQuiet_nil ?_;rintro w2 ⟨⟨_,d⟩,rfl⟩;replace c:=c.later d;replace g:=g.later d;replace hb:=qab hb d;have r:Hid _:=m.out.later d;clear d c0 c1 c2 c3 V W X Y m;have s7:=r.out.box.cell 7 _ rfl;by_cases hn:200<=log.length
    ·have E:Hid (qa1 S log.length now d0 d1 d2 d3 ws=12):=by show qa1 S log.length now d0 d1 d2 d3 ws=12;unfold qa1;rw[if_neg (by rw[N.out];decide),if_neg (by rw[o.out];decide),if_neg (by rw[q.out];decide),if_pos hn]
     have h200:(200:Int)<=(log.length:Int):=by omega
     have v:=c.cell 0 _ rfl;have p0:=c.free 0 (by simp[txZ]);have y:=c.cell 1 _ rfl;have p1:=c.free 1 (by simp[txZ]);have z:=c.cell 2 _ rfl;have p2:=c.free 2 (by simp[txZ]);have B:=c.cell 3 _ rfl;have p3:=c.free 3 (by simp[txZ]);have C:=c.cell 4 _ rfl;have D:=c.free 4 (by simp[txZ]);have F:=c.cell 5 _ rfl;have G:=c.free 5 (by simp[txZ]);have H:=c.cell 6 _ rfl;have I:=c.free 6 (by simp[txZ]);have J:=c.cell 7 _ rfl;have K:=c.free 7 (by simp[txZ]);have L:=c.cell 8 _ rfl;have M:=c.free 8 (by simp[txZ]);have j:=qb3 c rfl 0 0 0 0 0 0 0 0 (.slice none 0 0);have k:=qg3 hb p 0 0 0 0 0 0 0 0 (.slice none 0 0);have l:=i _ 12 E.out (by decide) k;clear i
     go_wp2_with fail
     exact bodyPost_ret (qdp j rfl rfl) rfl l.out
    ·have Z:Hid (qa1 S log.length now d0 d1 d2 d3 ws=(qfp S.lw S.lc now).2.2):=by show qa1 S log.length now d0 d1 d2 d3 ws=_;unfold qa1;rw[if_neg (by rw[N.out];decide),if_neg (by rw[o.out];decide),if_neg (by rw[q.out];decide),if_neg hn]
     have h200:¬(200:Int)<=(log.length:Int):=by omega
     have k5:=r.out.box.cell 5 _ rfl;have k6:=r.out.box.cell 6 _ rfl
     go_wp2_with fail
     refine(qo2 S.lw S.lc now _).mono ?_;rintro e w3 ⟨rfl,s⟩;replace c:=c.later s;replace g:=g.later s;replace hb:=qab hb s;have M3:Hid _:=r.out.later s;clear s r s7 k5 k6;obtain⟨⟨nw,O,ne⟩,P⟩:∃x,qfp S.lw S.lc now=x:=⟨_,rfl⟩;have HNX:Hid _:=P;rw[P];rw[P]at Z;clear P;replace c:=c.boxed (.cells #[int i64 nw,int i64 O] 79);replace g:=g.boxed (.cells #[int i64 nw,int i64 O] 79);replace hb:=boxed hb (.cells #[int i64 nw,int i64 O] 79);have RS:=qag.new (w:=w3) (T:=79) [int i64 nw,int i64 O] rfl;by_cases aa:ne≠0
     ·have U:(ne==0)=false:=by simp[aa]
      have h2:(ne !=0)=true:=by simp[aa]
      have v:=c.cell 0 _ rfl;have p0:=c.free 0 (by simp[txZ]);have y:=c.cell 1 _ rfl;have p1:=c.free 1 (by simp[txZ]);have z:=c.cell 2 _ rfl;have p2:=c.free 2 (by simp[txZ]);have B:=c.cell 3 _ rfl;have p3:=c.free 3 (by simp[txZ]);have C:=c.cell 4 _ rfl;have D:=c.free 4 (by simp[txZ]);have F:=c.cell 5 _ rfl;have G:=c.free 5 (by simp[txZ]);have H:=c.cell 6 _ rfl;have I:=c.free 6 (by simp[txZ]);have J:=c.cell 7 _ rfl;have K:=c.free 7 (by simp[txZ]);have L:=c.cell 8 _ rfl;have M:=c.free 8 (by simp[txZ]);have j:=qb3 c rfl 0 0 0 0 0 0 0 0 (.slice none 0 0);have k:=qg3 hb p 0 0 0 0 0 0 0 0 (.slice none 0 0);have l:=i _ ne Z.out (by exact aa) k;clear i
      go_wp2_with fail
      exact bodyPost_ret (qdp j rfl rfl) rfl l.out
     ·have he0:ne=0:=by omega
      subst he0;exact absurd Z.out HNE.out
end
section
open Go.Value Go.IntKind
variable {w:World} {b:Nat} {lv wv sv:Value} {S:qaf}
theorem qco.keptB {w':World} {log waits:List TxM} (h:qco w b lv wv sv S log waits) (a:∀k,(qas b lv wv sv k\/∃m∈log++waits,m.blk k)->w'.heap[k]?=w.heap[k]?) (hs:w.heap.size<=w'.heap.size):qco w' b lv wv sv S log waits:=
 ⟨h.box.kept (a b (.inl (.inl rfl))) hs,qad h.rlog (λk e=>a k (.inl (.inr (.inl e)))),qad h.rwait (λk e=>a k (.inl (.inr (.inr (.inl e))))),qad h.own (λk e=>a k (.inl (.inr (.inr (.inr e))))),h.ok,h.nl,h.nw,h.ns,h.lw,h.ls,h.ws,
   λm c=>⟨(h.hold m c).1.kept (λk e=>a k (.inr ⟨m,c,e⟩)),(h.hold m c).2⟩⟩
def qua (w:World) (b:Nat) (lv wv sv:Value) (S:qaf) (log waits:List TxM) (now d0 d1 d2 d3:Int) (ws:List Wr) (e:Ending) (w':World):Prop:=
 ∃(wa:Option Addr) (wc:Nat) (lv' sv':Value),e=.returned (.tuple #[.agg (txC ⟨qcd S now d0 d1 d2 d3 ws,wa,wc⟩).toArray,int i64 0])/\
  qco w' b lv' wv sv' (qcb S (qcd S now d0 d1 d2 d3 ws)) (log++[⟨qcd S now d0 d1 d2 d3 ws,wa,wc⟩]) waits/\(∀k,qas b lv' wv sv' k->qas b lv wv sv k\/w.heap.size<=k)/\qae (qas b lv wv sv) w w'/\∀k,(⟨qcd S now d0 d1 d2 d3 ws,wa,wc⟩:TxM).blk k->w.heap.size<=k
variable {ws:List Wr}
theorem qr7 {r l:World} {g n:Nat} {s t:Value} {log waits:List TxM} {now d0 d1 d2 d3 x0 x1 x2 x3 a c d f:Int} (h:qco w b lv wv sv S log waits) (hb:Below w.heap.size w r) (hs:w.heap.size+1<r.heap.size)
 (A:qco l b s wv t (qcb S ⟨x0,x1,x2,x3,a,c,d,f,ws⟩) (log++[⟨⟨x0,x1,x2,x3,a,c,d,f,ws⟩,some ⟨g,0,none⟩,n⟩]) waits) (x:∀k,qas b s wv t k->qas b lv wv sv k\/r.heap.size<=k) (B:qae (qas b lv wv sv) r l) (E:w.heap.size+1<g)
 (y:qcd S now d0 d1 d2 d3 ws=⟨x0,x1,x2,x3,a,c,d,f,ws⟩):
 Hid (qua w b lv wv sv S log waits now d0 d1 d2 d3 ws (.returned (.tuple #[.agg #[int i64 x0,int i64 x1,int i64 x2,int i64 x3,int i64 a,int i64 c,int i64 d,int i64 f,.slice (some ⟨g,0,none⟩) ws.length n],int i64 0])) (qbu l (w.heap.size+1) x0 x1 x2 x3 a c d f (.slice (some ⟨g,0,none⟩) ws.length n))):=by
 have C:∀k,k≠w.heap.size+1->(qbu l (w.heap.size+1) x0 x1 x2 x3 a c d f (.slice (some ⟨g,0,none⟩) ws.length n)).heap[k]?=l.heap[k]?:=λk i=>qi3 i x0 x1 x2 x3 a c d f _
 have F:(qbu l (w.heap.size+1) x0 x1 x2 x3 a c d f (.slice (some ⟨g,0,none⟩) ws.length n)).heap.size=l.heap.size:=by simp only[qbu,World.setCell,Array.size_modify]
 have D:=q4u ((qae.ofBelow hb).more B (λk i=>.inl i)) (Nat.le_succ w.heap.size) x0 x1 x2 x3 a c d f (.slice (some ⟨g,0,none⟩) ws.length n)
 generalize qbu l (w.heap.size+1) x0 x1 x2 x3 a c d f (.slice (some ⟨g,0,none⟩) ws.length n)=W at*
 refine⟨some ⟨g,0,none⟩,n,s,t,by rw[y];rfl,?_,λk i=>(x k i).imp id (λe=>by omega),D,λk i=>by
  obtain⟨_,o,j⟩:=i;injection j with j;injection j with j e2
  omega⟩
 rw[y];refine A.keptB (λk i=>C k (λe=>?_)) (by omega);rcases i with p|⟨m,u,p⟩
 ·rcases x k p with q|q
  ·have:=h.lt k q;omega
  ·omega
 ·have z:∀m∈log++waits,m.blk k->False:=λm u p=>by
   have:=(h.hold m u).1.blk_lt k p;omega
  rcases List.mem_append.1 u with q|q
  ·rcases List.mem_append.1 q with v|v
   ·exact z m (List.mem_append.2 (.inl v)) p
   ·rw[List.mem_singleton.1 v]at p;obtain⟨_,o,j⟩:=p;injection j with j;injection j with j e2;omega
  ·exact z m (List.mem_append.2 (.inr q)) p
theorem qso {log waits:List TxM} (now d0 d1 d2 d3:Int) {a:Option Addr} {cap:Nat} (w:World) (h:qco w b lv wv sv S log waits) (hI:qcx S) (hlog:log.length=S.log.length) (hW:qaz w a cap ws) (hX:∀k O,ws≠[]->a=some ⟨k,O,none⟩->¬qas b lv wv sv k) (hE0:qa1 S log.length now d0 d1 d2 d3 ws=0):
 Calls Tryz.prog 127 #[.pointer (some ⟨b,0,none⟩),int i64 now,.agg #[int i64 d0,int i64 d1,int i64 d2,int i64 d3],.slice a ws.length cap] w (qua w b lv wv sv S log waits now d0 d1 d2 d3 ws):=by
 obtain⟨J,lc,rfl,hT⟩:=qbl h.rlog;have hc1:=hT.len;have hc2:=hT.cap;have C:=(qa9.new w 77 d0 d1 d2 d3).boxed (.cells #[int i64 0,int i64 0,int i64 0,int i64 0,int i64 0,int i64 0,int i64 0,int i64 0,.slice none 0 0] 102);have E:qag ((w.alloc (.cells #[int i64 d0,int i64 d1,int i64 d2,int i64 d3] 77)).alloc (.cells #[int i64 0,int i64 0,int i64 0,int i64 0,int i64 0,int i64 0,int i64 0,int i64 0,.slice none 0 0] 102)) (w.heap.size+1) txZ:=qag.new (w:=w.alloc (.cells #[int i64 d0,int i64 d1,int i64 d2,int i64 d3] 77)) (T:=102) (n:=w.heap.size+1) [int i64 0,int i64 0,int i64 0,int i64 0,int i64 0,int i64 0,int i64 0,int i64 0,.slice none 0 0] (by simp);have hb:=boxed (boxed (Below.refl _ w) (.cells #[int i64 d0,int i64 d1,int i64 d2,int i64 d3] 77)) (.cells #[int i64 0,int i64 0,int i64 0,int i64 0,int i64 0,int i64 0,int i64 0,int i64 0,.slice none 0 0] 102);have WI:=hW.later hb;have HH:Hid (qco w b (.slice J log.length lc) wv sv S log waits):=h;have HW:Hid (qaz w a cap ws):=hW
 have hB:w.heap.size<=w.heap.size+1:=by omega
 obtain⟨z1,z2,z3,z4,z5⟩:=qjh hE0;have HOK:Hid (qe8 ws=true):=z1;have HV:Hid (qay d0 d1 d2 d3=true):=z2;have HC:Hid (qfu S.a0 S.a1 S.a2 S.a3 d0 d1 d2 d3=true):=z3;have HN5:Hid ((qfp S.lw S.lc now).2.2=0):=z5;have HE:Hid (qa1 S log.length now d0 d1 d2 d3 ws=0):=hE0
 have h200:¬(200:Int)<=(log.length:Int):=by omega
 have HI:Hid (qcx S):=hI;have hi0:=hI.id0;have hi3:=hI.id3;clear h hW hE0 z1 z2 z3 z4 z5 hI;go_enter Tryz.func127,Tryz.ntmps127
 go_wp2_with fail
 refine(qa7 WI).mono ?_;rintro e w1 ⟨rfl,hb1⟩;replace C:=C.later hb1;replace E:=E.later hb1;replace hb:=qab hb hb1;clear hb1 WI;rw[HOK.out];have M1:Hid (qco w1 b (.slice J log.length lc) wv sv S log waits):=HH.out.later hb;have c0:=Later.cell C.c0;have c1:=Later.cell C.c1;have c2:=Later.cell C.c2;have c3:=Later.cell C.c3;have k1:=Later.cell (M1.out.box.cell 1 _ rfl);have k2:=Later.cell (M1.out.box.cell 2 _ rfl);have k3:=Later.cell (M1.out.box.cell 3 _ rfl);have k4:=Later.cell (M1.out.box.cell 4 _ rfl)
 go_wp2_with fail
 refine qaa (by kernel_rfl) (by kernel_rfl) ?_
 repeat (go_big_quiet_step (first|rfl|(go_at_call 178;with_reducible exact qac (qat HV.out _))|(go_at_call 77;with_reducible exact qac (qbj HC.out _))))
 refine wpQuiet_nil ?_;rintro w2 ⟨⟨_,hb2⟩,rfl⟩;replace E:=E.later hb2;replace C:=C.later hb2;replace hb:=qab hb hb2;have M2:Hid (qco w2 b (.slice J log.length lc) wv sv S log waits):=M1.out.later hb2;clear hb2 c0 c1 c2 c3 k1 k2 k3 k4 M1;have s7:=M2.out.box.cell 7 _ rfl;have k5:=M2.out.box.cell 5 _ rfl;have k6:=M2.out.box.cell 6 _ rfl
 go_wp2_with fail
 refine(qo2 S.lw S.lc now _).mono ?_;rintro e X ⟨rfl,hb3⟩;have M3:Hid (qco X b (.slice J log.length lc) wv sv S log waits):=M2.out.later hb3;obtain⟨⟨nw,i,ne⟩,hnx⟩:∃x,qfp S.lw S.lc now=x:=⟨_,rfl⟩;have HNX:Hid (qfp S.lw S.lc now=(nw,i,ne)):=hnx
 have hne:ne=0:=by have:=HN5.out;rw[hnx]at this;exact this
 rw[hnx];clear hnx;subst hne;have HSZ:Hid (w.heap.size+1<X.heap.size):=(E.later hb3).lt;replace E:=(E.later hb3).boxed (.cells #[int i64 nw,int i64 i] 79);replace C:=(C.later hb3).boxed (.cells #[int i64 nw,int i64 i] 79);replace hb:=boxed (qab hb hb3) (.cells #[int i64 nw,int i64 i] 79);have RS:=qag.new (w:=X) (T:=79) [int i64 nw,int i64 i] rfl;have M4:Hid (qco (X.alloc (.cells #[int i64 nw,int i64 i] 79)) b (.slice J log.length lc) wv sv S log waits):=M3.out.later (boxed (Below.refl _ X) _);clear hb3 M2 M3 s7 k5 k6;obtain⟨D,hD⟩:∃D,qaq S.id S.a0 S.a1 S.a2 S.a3=D:=⟨_,rfl⟩;have hd:=HI.out.dep S.id;rw[hD]at hd;have hwr:=qq3 hd.1 hd.2
 have HCT0:qcd S now d0 d1 d2 d3 ws=⟨S.id,D+1,nw,i,qh4 S.id D d0,qhq S.id D d1,qhs S.id D d2,qh6 S.id D d3,ws⟩:=by unfold qcd;rw[hD,HNX.out]
 go_wp2_with fail
 obtain⟨W4,hW4⟩:∃W4,X.alloc (.cells #[int i64 nw,int i64 i] 79)=W4:=⟨_,rfl⟩;rw[hW4]at E C hb RS M4 ⊢;clear hW4;have k0:=Later.cell (M4.out.box.cell 0 _ rfl);have ks:=Later.cell (qmy M4.out.box hi0 hi3);rw[hD]at ks
 have hi4:S.id<4:=by omega
 have HD:Hid (qaq S.id S.a0 S.a1 S.a2 S.a3=D):=hD;have HFT:Hid (∀k,qas b (.slice J log.length lc) wv sv k->k<w.heap.size):=HH.out.lt
 have nb:b≠w.heap.size:=by have:=HFT.out b (.inl rfl);omega
 clear hD;refine qaa (by kernel_rfl) (by kernel_rfl) ?_
 repeat (go_big_quiet_step (first|rfl|fail))
 refine wpQuiet_nil ?_;rintro W5 ⟨⟨_,hb5⟩,rfl⟩;replace E:=E.later hb5;replace C:=C.later hb5;replace RS:=RS.later hb5;replace hb:=qab hb hb5;have M5:Hid (qco W5 b (.slice J log.length lc) wv sv S log waits):=M4.out.later hb5;clear hb5 k0 ks M4;have k0:=M5.out.box.cell 0 _ rfl;have v1:=qoz C hi0 hi3;have v2:=qx8 C hi0 hi3
 go_wp2_with fail
 have RD6:=q2s C hi0 hi3 D;have RT6:=E.far ⟨w.heap.size,S.id.toNat,none⟩ (int i64 D) (by simp);have RS6:=RS.far ⟨w.heap.size,S.id.toNat,none⟩ (int i64 D) (by have:=HSZ.out;simp only;omega);have hb6:=hb.setCell (p:=⟨w.heap.size,S.id.toNat,none⟩) (Nat.le_refl _) (int i64 D);have M6:Hid (qco (W5.setCell ⟨w.heap.size,S.id.toNat,none⟩ (int i64 D)) b (.slice J log.length lc) wv sv S log waits):=HH.out.later hb6;have HS6:Hid (X.heap.size<(W5.setCell ⟨w.heap.size,S.id.toNat,none⟩ (int i64 D)).heap.size):=RS6.lt;obtain⟨c,hW6⟩:∃c,W5.setCell ⟨w.heap.size,S.id.toNat,none⟩ (int i64 D)=c:=⟨_,rfl⟩;rw[hW6]at RD6 RT6 RS6 hb6 M6 HS6 ⊢;obtain⟨v,he0⟩:∃x,qh4 S.id D d0=x:=⟨_,rfl⟩;obtain⟨r,he1⟩:∃x,qhq S.id D d1=x:=⟨_,rfl⟩;obtain⟨s,he2⟩:∃x,qhs S.id D d2=x:=⟨_,rfl⟩;obtain⟨y,he3⟩:∃x,qh6 S.id D d3=x:=⟨_,rfl⟩;rw[he0,he1,he2,he3]at RD6 HCT0;have HCT:Hid (qcd S now d0 d1 d2 d3 ws=⟨S.id,D+1,nw,i,v,r,s,y,ws⟩):=HCT0;clear hW6 he0 he1 he2 he3 HCT0 C E RS hb M5 k0 v1 v2;have Y0:=λ(w':World) (h:Below c.heap.size c w')=>cell_later h (M6.out.box.cell 0 _ rfl);have Y2:=λ(w':World) (h:Below c.heap.size c w')=>cell_later h (RS6.cell 0 _ rfl);have Y3:=λ(w':World) (h:Below c.heap.size c w')=>cell_later h (RS6.cell 1 _ rfl);have Y4:=λ(w':World) (h:Below c.heap.size c w')=>cell_later h RD6.c0;have Y5:=λ(w':World) (h:Below c.heap.size c w')=>cell_later h RD6.c1;have Y6:=λ(w':World) (h:Below c.heap.size c w')=>cell_later h RD6.c2;have Y7:=λ(w':World) (h:Below c.heap.size c w')=>cell_later h RD6.c3;have hb60:=(Below.refl c.heap.size c).drew
 obtain⟨Y,O,haa,hcc⟩:∃Y O,a=some ⟨Y,O,none⟩/\qd4 c Y O ws:=by
  rcases(HW.out.later hb6).held with h0|h0
  ·exfalso
   have:=HOK.out;rw[h0]at this;simp[qe8,inB]at this
  ·exact h0
 have K:Hid (1<=ws.length/\ws.length<=5):=by
  have h1:=HOK.out;simp only[qe8,Bool.and_eq_true,qa5]at h1;show _/\_;omega
 have HNW:Hid (∀W,Below c.heap.size c W->∀j u,(qhp ws)[j]?=some u->W.cell? ((⟨Y,O,none⟩:Addr).add j)=some u):=λW hW=>qsa (hcc.later hW);subst haa
 have hw2:IntKind.i64.wrap (D+1)=D+1:=by rw[<-qq3 hd.1 hd.2];unfold wrap64 IntKind.wrap;simp[IntKind.signed,IntKind.bits];omega
 obtain⟨i0,hi,hz0,hz1,hz2⟩:=info_parts qpf;clear hcc
 go_region_held3 (λw'=>Below c.heap.size c w') (repeat (first|(with_reducible assumption)|(with_reducible exact Below.refl _ _)|(with_reducible refine boxed ?_ _)|(with_reducible refine Below.drew ?_)|(refine Below.setCell ?_ (by first|(with_reducible exact Nat.le_refl _)|(simp)) _)))
  (first
    |(refine step_append_lies _ rfl (.tmp 74) (.tmp 75) 88 rfl 0 100 i0 (.agg #[int i64 0,.string ⟨#[]⟩,.bool false]) 3 32 Tryz.underlying88 hi hz0 hz1 hz2 rfl (by decide) (.slice (some ⟨c.heap.size,0,none⟩) 0 0) 0 [] (by simp[Act.eval]) (qkc c 100 rfl 0 (Nat.zero_le _)) ⟨Y,O,none⟩ ws.length cap (qhp ws) (by simp[Act.eval]) (qep ws) (HNW.out _ (by repeat (first|(with_reducible assumption)|(with_reducible exact Below.refl _ _)|(with_reducible refine boxed ?_ _)|(with_reducible refine Below.drew ?_)))) (qj0 ws) (by have:=K.out;omega) (by have:=K.out;simp only[maxLen];omega) (by have:=K.out;omega) (by simp) _ rfl ?_;intro g q z Q L R U;have H:Below c.heap.size c z:=Below.grown (by repeat (first|(with_reducible assumption)|(with_reducible exact Below.refl _ _)|(with_reducible refine boxed ?_ _)|(with_reducible refine Below.drew ?_))) L (by simp<;>omega) (λj hj=>by simp[Value.ownBlock]at hj<;>omega);have M:Hid (c.heap.size<=g/\g<z.heap.size):=⟨by rcases R with h|h<;>simp[Value.ownBlock]at h<;>omega,U⟩)
    |(refine step_append_lies _ rfl (.tmp 74) (.tmp 75) 88 rfl 0 100 i0 (.agg #[int i64 0,.string ⟨#[]⟩,.bool false]) 3 32 Tryz.underlying88 hi hz0 hz1 hz2 rfl (by decide) (.slice (some ⟨c.heap.size+1,0,none⟩) 0 0) 0 [] (by simp[Act.eval]) (qkc (c.alloc (.cells #[int i64 0,int i64 0,int i64 0,int i64 0,int i64 0,int i64 0,int i64 0,int i64 0,.slice none 0 0] 102)) (n:=c.heap.size+1) 100 (by simp) 0 (Nat.zero_le _)) ⟨Y,O,none⟩ ws.length cap (qhp ws) (by simp[Act.eval]) (qep ws) (HNW.out _ (by repeat (first|(with_reducible assumption)|(with_reducible exact Below.refl _ _)|(with_reducible refine boxed ?_ _)|(with_reducible refine Below.drew ?_)))) (qj0 ws) (by have:=K.out;omega) (by have:=K.out;simp only[maxLen];omega) (by have:=K.out;omega) (by simp) _ rfl ?_;intro g q z Q L R U;have H:Below c.heap.size c z:=Below.grown (by repeat (first|(with_reducible assumption)|(with_reducible exact Below.refl _ _)|(with_reducible refine boxed ?_ _)|(with_reducible refine Below.drew ?_))) L (by simp<;>omega) (λj hj=>by simp[Value.ownBlock]at hj<;>omega);have M:Hid (c.heap.size+1<=g/\g<z.heap.size):=⟨by rcases R with h|h<;>simp[Value.ownBlock]at h<;>omega,U⟩;have d:=(((qag.new (w:=c) (T:=102) [int i64 0,int i64 0,int i64 0,int i64 0,int i64 0,int i64 0,int i64 0,int i64 0,.slice none 0 0] rfl).boxed (.cells #[] 100)).drew).grown L (λe=>by simp[Value.ownBlock]at e<;>omega);have y0:=d.cell 0 _ rfl;have zz0:=d.free 0 (by simp);have y1:=d.cell 1 _ rfl;have zz1:=d.free 1 (by simp);have y2:=d.cell 2 _ rfl;have zz2:=d.free 2 (by simp);have y3:=d.cell 3 _ rfl;have zz3:=d.free 3 (by simp);have y4:=d.cell 4 _ rfl;have zz4:=d.free 4 (by simp);have y5:=d.cell 5 _ rfl;have zz5:=d.free 5 (by simp);have y6:=d.cell 6 _ rfl;have zz6:=d.free 6 (by simp);have y7:=d.cell 7 _ rfl;have zz7:=d.free 7 (by simp);have y8:=d.cell 8 _ rfl;have zz8:=d.free 8 (by simp))
    |(refine step_append_lies _ rfl (.tmp 74) (.tmp 75) 88 rfl 0 100 i0 (.agg #[int i64 0,.string ⟨#[]⟩,.bool false]) 3 32 Tryz.underlying88 hi hz0 hz1 hz2 rfl (by decide) (.slice (some ⟨c.heap.size,0,none⟩) 0 0) 0 [] (by simp[Act.eval]) ((qkc c 100 rfl 0 (Nat.zero_le _)).alloc (.cells #[int i64 0,int i64 0,int i64 0,int i64 0,int i64 0,int i64 0,int i64 0,int i64 0,.slice none 0 0] 102)) ⟨Y,O,none⟩ ws.length cap (qhp ws) (by simp[Act.eval]) (qep ws) (HNW.out _ (by repeat (first|(with_reducible assumption)|(with_reducible exact Below.refl _ _)|(with_reducible refine boxed ?_ _)|(with_reducible refine Below.drew ?_)))) (qj0 ws) (by have:=K.out;omega) (by have:=K.out;simp only[maxLen];omega) (by have:=K.out;omega) (by simp) _ rfl ?_;intro g q z Q L R U;have H:Below c.heap.size c z:=Below.grown (by repeat (first|(with_reducible assumption)|(with_reducible exact Below.refl _ _)|(with_reducible refine boxed ?_ _)|(with_reducible refine Below.drew ?_))) L (by simp<;>omega) (λj hj=>by simp[Value.ownBlock]at hj<;>omega);have M:Hid ((g=c.heap.size\/c.heap.size+1<g)/\g<z.heap.size):=⟨by rcases R with h|h<;>simp[Value.ownBlock]at h<;>omega,U⟩;have d:=((qag.new (w:=c.alloc (.cells #[] 100)) (T:=102) (n:=c.heap.size+1) [int i64 0,int i64 0,int i64 0,int i64 0,int i64 0,int i64 0,int i64 0,int i64 0,.slice none 0 0] (by simp)).drew).grown L (λe=>by simp[Value.ownBlock]at e<;>omega);have y0:=d.cell 0 _ rfl;have zz0:=d.free 0 (by simp);have y1:=d.cell 1 _ rfl;have zz1:=d.free 1 (by simp);have y2:=d.cell 2 _ rfl;have zz2:=d.free 2 (by simp);have y3:=d.cell 3 _ rfl;have zz3:=d.free 3 (by simp);have y4:=d.cell 4 _ rfl;have zz4:=d.free 4 (by simp);have y5:=d.cell 5 _ rfl;have zz5:=d.free 5 (by simp);have y6:=d.cell 6 _ rfl;have zz6:=d.free 6 (by simp);have y7:=d.cell 7 _ rfl;have zz7:=d.free 7 (by simp);have y8:=d.cell 8 _ rfl;have zz8:=d.free 8 (by simp)))
 focus
  have V:=qky Q;have F:qag (z.alloc (.cells #[int i64 S.id,int i64 (D+1),int i64 nw,int i64 i,int i64 v,int i64 r,int i64 s,int i64 y,.slice (some ⟨g,0,none⟩) ws.length q] 102)) z.heap.size [int i64 S.id,int i64 (D+1),int i64 nw,int i64 i,int i64 v,int i64 r,int i64 s,int i64 y,.slice (some ⟨g,0,none⟩) ws.length q]:=qag.new (w:=z) (T:=102) [int i64 S.id,int i64 (D+1),int i64 nw,int i64 i,int i64 v,int i64 r,int i64 s,int i64 y,.slice (some ⟨g,0,none⟩) ws.length q] rfl;have P:Below c.heap.size c (z.alloc (.cells #[int i64 S.id,int i64 (D+1),int i64 nw,int i64 i,int i64 v,int i64 r,int i64 s,int i64 y,.slice (some ⟨g,0,none⟩) ws.length q] 102)):=boxed H (.cells #[int i64 S.id,int i64 (D+1),int i64 nw,int i64 i,int i64 v,int i64 r,int i64 s,int i64 y,.slice (some ⟨g,0,none⟩) ws.length q] 102);have Z:qaz (z.alloc (.cells #[int i64 S.id,int i64 (D+1),int i64 nw,int i64 i,int i64 v,int i64 r,int i64 s,int i64 y,.slice (some ⟨g,0,none⟩) ws.length q] 102)) (some ⟨g,0,none⟩) q ws:=V.later (boxed (Below.refl _ z) (.cells #[int i64 S.id,int i64 (D+1),int i64 nw,int i64 i,int i64 v,int i64 r,int i64 s,int i64 y,.slice (some ⟨g,0,none⟩) ws.length q] 102));obtain⟨N,G⟩:∃N,z.alloc (.cells #[int i64 S.id,int i64 (D+1),int i64 nw,int i64 i,int i64 v,int i64 r,int i64 s,int i64 y,.slice (some ⟨g,0,none⟩) ws.length q] 102)=N:=⟨_,rfl⟩;rw[G]at F P Z ⊢;obtain⟨xb,I⟩:∃x,z.heap.size=x:=⟨_,rfl⟩;have HQX:Hid (c.heap.size<=g/\c.heap.size<=xb):=⟨by have:=M.out;omega,by rw[<-I];first|exact H.size|omega⟩;rw[I]at F ⊢;clear G I V Q L R U M H
 rotate_left
 focus
  have V:=qky Q;have F:qag (qbu z (c.heap.size+1) S.id (D+1) nw i v r s y (.slice (some ⟨g,0,none⟩) ws.length q)) (c.heap.size+1) [int i64 S.id,int i64 (D+1),int i64 nw,int i64 i,int i64 v,int i64 r,int i64 s,int i64 y,.slice (some ⟨g,0,none⟩) ws.length q]:=qb3 d rfl S.id (D+1) nw i v r s y (.slice (some ⟨g,0,none⟩) ws.length q);have P:Below c.heap.size c (qbu z (c.heap.size+1) S.id (D+1) nw i v r s y (.slice (some ⟨g,0,none⟩) ws.length q)):=qg3 H (Nat.le_succ _) S.id (D+1) nw i v r s y (.slice (some ⟨g,0,none⟩) ws.length q);have Z:qaz (qbu z (c.heap.size+1) S.id (D+1) nw i v r s y (.slice (some ⟨g,0,none⟩) ws.length q)) (some ⟨g,0,none⟩) q ws:=qaz.kept (m:=⟨⟨S.id,D+1,nw,i,v,r,s,y,ws⟩,some ⟨g,0,none⟩,q⟩) (w:=z) V (λk e=>qi3 (by obtain⟨_,o,e⟩:=e;injection e with e;injection e with e;have:=M.out;omega) S.id (D+1) nw i v r s y (.slice (some ⟨g,0,none⟩) ws.length q));obtain⟨N,G⟩:∃N,qbu z (c.heap.size+1) S.id (D+1) nw i v r s y (.slice (some ⟨g,0,none⟩) ws.length q)=N:=⟨_,rfl⟩;rw[G]at F P Z;simp only[qbu]at G;rw[G];obtain⟨xb,I⟩:∃x,c.heap.size+1=x:=⟨_,rfl⟩;have HQX:Hid (c.heap.size<=g/\c.heap.size<=xb):=⟨by have:=M.out;omega,by rw[<-I];first|exact H.size|omega⟩;rw[I]at F ⊢;clear G I V Q L R U M H d y0 zz0 y1 zz1 y2 zz2 y3 zz3 y4 zz4 y5 zz5 y6 zz6 y7 zz7 y8 zz8
 rotate_left
 focus
  have V:=qky Q;have F:qag (qbu z c.heap.size S.id (D+1) nw i v r s y (.slice (some ⟨g,0,none⟩) ws.length q)) c.heap.size [int i64 S.id,int i64 (D+1),int i64 nw,int i64 i,int i64 v,int i64 r,int i64 s,int i64 y,.slice (some ⟨g,0,none⟩) ws.length q]:=qb3 d rfl S.id (D+1) nw i v r s y (.slice (some ⟨g,0,none⟩) ws.length q);have P:Below c.heap.size c (qbu z c.heap.size S.id (D+1) nw i v r s y (.slice (some ⟨g,0,none⟩) ws.length q)):=qg3 H (Nat.le_refl _) S.id (D+1) nw i v r s y (.slice (some ⟨g,0,none⟩) ws.length q);have Z:qaz (qbu z c.heap.size S.id (D+1) nw i v r s y (.slice (some ⟨g,0,none⟩) ws.length q)) (some ⟨g,0,none⟩) q ws:=qaz.kept (m:=⟨⟨S.id,D+1,nw,i,v,r,s,y,ws⟩,some ⟨g,0,none⟩,q⟩) (w:=z) V (λk e=>qi3 (by obtain⟨_,o,e⟩:=e;injection e with e;injection e with e;have:=M.out;omega) S.id (D+1) nw i v r s y (.slice (some ⟨g,0,none⟩) ws.length q));obtain⟨N,G⟩:∃N,qbu z c.heap.size S.id (D+1) nw i v r s y (.slice (some ⟨g,0,none⟩) ws.length q)=N:=⟨_,rfl⟩;rw[G]at F P Z;simp only[qbu]at G;rw[G];obtain⟨xb,I⟩:∃x,c.heap.size=x:=⟨_,rfl⟩;have HQX:Hid (c.heap.size<=g/\c.heap.size<=xb):=⟨by have:=M.out;omega,by rw[<-I];first|exact H.size|omega⟩;rw[I]at F ⊢;clear G I V Q L R U M H d y0 zz0 y1 zz1 y2 zz2 y3 zz3 y4 zz4 y5 zz5 y6 zz6 y7 zz7 y8 zz8
 rotate_left
 all_goals
  clear Y0 Y2 Y3 Y4 Y5 Y6 Y7 hb60;have RTF:=RT6.later P;have MF:=M6.out.later P;have HSF:Hid (w.heap.size+1<c.heap.size):=RT6.lt;have HBW:Hid (Below w.heap.size w N):=qab hb6 P;have HLG:Hid (log.length=S.log.length):=hlog
  have HSL:Hid (S.l.length+ws.length<=1000/\log.length<=1000):=by
   have q1:=HI.out.len;have q2:=K.out;have q3:=HLG.out
   have q4:log.length<200:=by omega
   show _/\_;omega
  have nfx:∀k,w.heap.size<=k->¬qas b (.slice J log.length lc) wv sv k:=λk hk hf=>by
   have:=HFT.out k hf;omega
  have AP:=qkr ⟨⟨S.id,D+1,nw,i,v,r,s,y,ws⟩,some ⟨g,0,none⟩,q⟩ N MF ⟨Z,λk e hf=>by
   obtain⟨_,o,e⟩:=e;injection e with e;injection e with r s;have q1:=HQX.out.1;have q2:=HFT.out k hf;have q3:=HSF.out
   omega⟩ hi0 hi3 HSL.out.1 HSL.out.2
  have HNF:Hid (∀k,w.heap.size<=k->¬qas b (.slice J log.length lc) wv sv k):=nfx;clear MF Z nfx;obtain⟨x0,x1,x2,x3,x4,x5,x6,x7,x8⟩:=F.c9
  go_wp2_with fail
  refine AP.mono ?_;rintro e w9 ⟨rfl,lv',sv',M9,nf9,tt9⟩;have RX9:=F.kept (tt9.block _ F.lt (HNF.out _ (by have:=HQX.out.2;have:=HSF.out;omega))) tt9.size;have B:=RTF.kept (tt9.block _ RTF.lt (HNF.out _ (by omega))) tt9.size;have FIN:=qr7 HH.out HBW.out (by have:=HSF.out;have:=P.size;omega) M9 nf9 tt9 (by have:=HQX.out.1;have:=HSF.out;omega) HCT.out;clear M9 nf9 tt9 x0 x1 x2 x3 x4 x5 x6 x7 x8 AP RTF F;obtain⟨x0,x1,x2,x3,x4,x5,x6,x7,x8⟩:=RX9.c9;have r0:=B.cell 0 _ rfl;have p0:=B.free 0 (by simp[txZ]);have r1:=B.cell 1 _ rfl;have p1:=B.free 1 (by simp[txZ]);have r2:=B.cell 2 _ rfl;have p2:=B.free 2 (by simp[txZ]);have r3:=B.cell 3 _ rfl;have p3:=B.free 3 (by simp[txZ]);have r4:=B.cell 4 _ rfl;have p4:=B.free 4 (by simp[txZ]);have r5:=B.cell 5 _ rfl;have p5:=B.free 5 (by simp[txZ]);have r6:=B.cell 6 _ rfl;have p6:=B.free 6 (by simp[txZ]);have r7:=B.cell 7 _ rfl;have p7:=B.free 7 (by simp[txZ]);have r8:=B.cell 8 _ rfl;have p8:=B.free 8 (by simp[txZ]);have RZF:=qb3 B rfl S.id (D+1) nw i v r s y (.slice (some ⟨g,0,none⟩) ws.length q);clear RX9 B
  go_wp2_with fail
  exact bodyPost_ret (qdp RZF rfl rfl) rfl FIN.out
end
section
open Tryz Go.Value Go.IntKind
theorem qp8 (site seq wall count d0 d1 d2 d3:Int) (a:Option Addr) (cap:Nat) (l:List Wr) (w:World) (i:qaz w a cap l):
 Calls prog 128 #[.agg #[int i64 site,int i64 seq,int i64 wall,int i64 count,int i64 d0,int i64 d1,int i64 d2,int i64 d3,.slice a l.length cap]] w λe w'=>e=.returned (.bool (qdf site seq wall count d0 d1 d2 d3 l))/\Below w.heap.size w w':=by
 have o:=Later.one;have d:=i.later (boxed (Below.refl _ w) (.cells #[int i64 site,int i64 seq,int i64 wall,int i64 count,int i64 d0,int i64 d1,int i64 d2,int i64 d3,.slice a l.length cap] 102));clear i
 have c0:(w.alloc (.cells #[int i64 site,int i64 seq,int i64 wall,int i64 count,int i64 d0,int i64 d1,int i64 d2,int i64 d3,.slice a l.length cap] 102)).cell? ⟨w.heap.size,0,none⟩=some (int i64 site):=by go_simp
 have c1:(w.alloc (.cells #[int i64 site,int i64 seq,int i64 wall,int i64 count,int i64 d0,int i64 d1,int i64 d2,int i64 d3,.slice a l.length cap] 102)).cell? ⟨w.heap.size,1,none⟩=some (int i64 seq):=by go_simp
 have c2:(w.alloc (.cells #[int i64 site,int i64 seq,int i64 wall,int i64 count,int i64 d0,int i64 d1,int i64 d2,int i64 d3,.slice a l.length cap] 102)).cell? ⟨w.heap.size,2,none⟩=some (int i64 wall):=by go_simp
 have c3:(w.alloc (.cells #[int i64 site,int i64 seq,int i64 wall,int i64 count,int i64 d0,int i64 d1,int i64 d2,int i64 d3,.slice a l.length cap] 102)).cell? ⟨w.heap.size,3,none⟩=some (int i64 count):=by go_simp
 have c4:(w.alloc (.cells #[int i64 site,int i64 seq,int i64 wall,int i64 count,int i64 d0,int i64 d1,int i64 d2,int i64 d3,.slice a l.length cap] 102)).cell? ⟨w.heap.size,4,none⟩=some (int i64 d0):=by go_simp
 have c5:(w.alloc (.cells #[int i64 site,int i64 seq,int i64 wall,int i64 count,int i64 d0,int i64 d1,int i64 d2,int i64 d3,.slice a l.length cap] 102)).cell? ⟨w.heap.size,5,none⟩=some (int i64 d1):=by go_simp
 have c6:(w.alloc (.cells #[int i64 site,int i64 seq,int i64 wall,int i64 count,int i64 d0,int i64 d1,int i64 d2,int i64 d3,.slice a l.length cap] 102)).cell? ⟨w.heap.size,6,none⟩=some (int i64 d2):=by go_simp
 have j:(w.alloc (.cells #[int i64 site,int i64 seq,int i64 wall,int i64 count,int i64 d0,int i64 d1,int i64 d2,int i64 d3,.slice a l.length cap] 102)).cell? ⟨w.heap.size,7,none⟩=some (int i64 d3):=by go_simp
 have k:(w.alloc (.cells #[int i64 site,int i64 seq,int i64 wall,int i64 count,int i64 d0,int i64 d1,int i64 d2,int i64 d3,.slice a l.length cap] 102)).cell? ⟨w.heap.size,8,none⟩=some (.slice a l.length cap):=by go_simp
 replace c0:=Later.cell c0;replace c1:=Later.cell c1;replace c2:=Later.cell c2;replace c3:=Later.cell c3;replace c4:=Later.cell c4;replace c5:=Later.cell c5;replace c6:=Later.cell c6;replace j:=Later.cell j;replace k:=Later.cell k;cases p1:inB site 0 3
 ·rw[show qdf site seq wall count d0 d1 d2 d3 l=false by simp[qdf,p1]];go_enter func128,ntmps128
  go_wp2_with fail
  refine qaa (by kernel_rfl) (by kernel_rfl) ?_
  repeat (go_big_quiet_step (first|(go_at_call 28;with_reducible exact qac (qax p1 _))|(go_at_call 28;with_reducible exact qac (qax p2 _))|(go_at_call 180;with_reducible exact qac (qbf p3 _))|(go_at_call 178;with_reducible exact qac (qat p4 _))|(go_at_call 177;exact qac (qa7 (qaz.later (Later.below _) d)))))
  refine wpQuiet_nil ?_;rintro g ⟨⟨_,c⟩,rfl⟩
  go_wp2
  go_ret;exact⟨rfl,qab (boxed (Below.refl _ _) _) c⟩
 ·cases p2:inB seq 1 1099511627776
  ·rw[show qdf site seq wall count d0 d1 d2 d3 l=false by simp[qdf,p2]];go_enter func128,ntmps128
   go_wp2_with fail
   refine qaa (by kernel_rfl) (by kernel_rfl) ?_
   repeat (go_big_quiet_step (first|(go_at_call 28;with_reducible exact qac (qax p1 _))|(go_at_call 28;with_reducible exact qac (qax p2 _))|(go_at_call 180;with_reducible exact qac (qbf p3 _))|(go_at_call 178;with_reducible exact qac (qat p4 _))|(go_at_call 177;exact qac (qa7 (qaz.later (Later.below _) d)))))
   refine wpQuiet_nil ?_;rintro g ⟨⟨_,c⟩,rfl⟩
   go_wp2
   go_ret;exact⟨rfl,qab (boxed (Below.refl _ _) _) c⟩
  ·cases p3:(qal wall&&qal count)
   ·rw[show qdf site seq wall count d0 d1 d2 d3 l=false by simp only[qdf,p3,Bool.and_false,Bool.false_and]];go_enter func128,ntmps128
    go_wp2_with fail
    refine qaa (by kernel_rfl) (by kernel_rfl) ?_
    repeat (go_big_quiet_step (first|(go_at_call 28;with_reducible exact qac (qax p1 _))|(go_at_call 28;with_reducible exact qac (qax p2 _))|(go_at_call 180;with_reducible exact qac (qbf p3 _))|(go_at_call 178;with_reducible exact qac (qat p4 _))|(go_at_call 177;exact qac (qa7 (qaz.later (Later.below _) d)))))
    refine wpQuiet_nil ?_;rintro g ⟨⟨_,c⟩,rfl⟩
    go_wp2
    go_ret;exact⟨rfl,qab (boxed (Below.refl _ _) _) c⟩
   ·cases p4:qay d0 d1 d2 d3
    ·rw[show qdf site seq wall count d0 d1 d2 d3 l=false by simp only[qdf,p4,Bool.and_false,Bool.false_and]];go_enter func128,ntmps128
     go_wp2_with fail
     refine qaa (by kernel_rfl) (by kernel_rfl) ?_
     repeat (go_big_quiet_step (first|(go_at_call 28;with_reducible exact qac (qax p1 _))|(go_at_call 28;with_reducible exact qac (qax p2 _))|(go_at_call 180;with_reducible exact qac (qbf p3 _))|(go_at_call 178;with_reducible exact qac (qat p4 _))|(go_at_call 177;exact qac (qa7 (qaz.later (Later.below _) d)))))
     refine wpQuiet_nil ?_;rintro g ⟨⟨_,c⟩,rfl⟩
     go_wp2
     go_ret;exact⟨rfl,qab (boxed (Below.refl _ _) _) c⟩
    ·have hs:=qa5.1 p1;have m:=qa5.1 p2
     have e:qdf site seq wall count d0 d1 d2 d3 l=(decide (qaq site d0 d1 d2 d3=seq-1)&&qe8 l):=by simp only[qdf,p1,p2,p3,p4,Bool.and_true,Bool.true_and]
     rw[e];clear e
     have n:site=0\/site=1\/site=2\/site=3:=by omega
     obtain⟨p,q⟩:=m;clear hs;rcases n with rfl|rfl|rfl|rfl
     ·by_cases b:d0=seq-1
      ·have h:(d0==seq-1)=true:=by simp[b]
       rw[show (decide (qaq 0 d0 d1 d2 d3=seq-1)&&qe8 l)=qe8 l by simp[qaq,b]];clear b;go_enter func128,ntmps128
       go_wp2_with fail
       refine qaa (by kernel_rfl) (by kernel_rfl) ?_
       repeat (go_big_quiet_step (first|(go_at_call 28;with_reducible exact qac (qax p1 _))|(go_at_call 28;with_reducible exact qac (qax p2 _))|(go_at_call 180;with_reducible exact qac (qbf p3 _))|(go_at_call 178;with_reducible exact qac (qat p4 _))|(go_at_call 177;exact qac (qa7 (qaz.later (Later.below _) d)))))
       refine wpQuiet_nil ?_;rintro g ⟨⟨_,c⟩,rfl⟩
       go_wp2
       go_ret;exact⟨rfl,qab (boxed (Below.refl _ _) _) c⟩
      ·have h:(d0==seq-1)=false:=by simp[b]
       rw[show (decide (qaq 0 d0 d1 d2 d3=seq-1)&&qe8 l)=false by simp[qaq,b]];clear b;go_enter func128,ntmps128
       go_wp2_with fail
       refine qaa (by kernel_rfl) (by kernel_rfl) ?_
       repeat (go_big_quiet_step (first|(go_at_call 28;with_reducible exact qac (qax p1 _))|(go_at_call 28;with_reducible exact qac (qax p2 _))|(go_at_call 180;with_reducible exact qac (qbf p3 _))|(go_at_call 178;with_reducible exact qac (qat p4 _))|(go_at_call 177;exact qac (qa7 (qaz.later (Later.below _) d)))))
       refine wpQuiet_nil ?_;rintro g ⟨⟨_,c⟩,rfl⟩
       go_wp2
       go_ret;exact⟨rfl,qab (boxed (Below.refl _ _) _) c⟩
     ·by_cases b:d1=seq-1
      ·have h:(d1==seq-1)=true:=by simp[b]
       rw[show (decide (qaq 1 d0 d1 d2 d3=seq-1)&&qe8 l)=qe8 l by simp[qaq,b]];clear b;go_enter func128,ntmps128
       go_wp2_with fail
       refine qaa (by kernel_rfl) (by kernel_rfl) ?_
       repeat (go_big_quiet_step (first|(go_at_call 28;with_reducible exact qac (qax p1 _))|(go_at_call 28;with_reducible exact qac (qax p2 _))|(go_at_call 180;with_reducible exact qac (qbf p3 _))|(go_at_call 178;with_reducible exact qac (qat p4 _))|(go_at_call 177;exact qac (qa7 (qaz.later (Later.below _) d)))))
       refine wpQuiet_nil ?_;rintro g ⟨⟨_,c⟩,rfl⟩
       go_wp2
       go_ret;exact⟨rfl,qab (boxed (Below.refl _ _) _) c⟩
      ·have h:(d1==seq-1)=false:=by simp[b]
       rw[show (decide (qaq 1 d0 d1 d2 d3=seq-1)&&qe8 l)=false by simp[qaq,b]];clear b;go_enter func128,ntmps128
       go_wp2_with fail
       refine qaa (by kernel_rfl) (by kernel_rfl) ?_
       repeat (go_big_quiet_step (first|(go_at_call 28;with_reducible exact qac (qax p1 _))|(go_at_call 28;with_reducible exact qac (qax p2 _))|(go_at_call 180;with_reducible exact qac (qbf p3 _))|(go_at_call 178;with_reducible exact qac (qat p4 _))|(go_at_call 177;exact qac (qa7 (qaz.later (Later.below _) d)))))
       refine wpQuiet_nil ?_;rintro g ⟨⟨_,c⟩,rfl⟩
       go_wp2
       go_ret;exact⟨rfl,qab (boxed (Below.refl _ _) _) c⟩
     ·by_cases b:d2=seq-1
      ·have h:(d2==seq-1)=true:=by simp[b]
       rw[show (decide (qaq 2 d0 d1 d2 d3=seq-1)&&qe8 l)=qe8 l by simp[qaq,b]];clear b;go_enter func128,ntmps128
       go_wp2_with fail
       refine qaa (by kernel_rfl) (by kernel_rfl) ?_
       repeat (go_big_quiet_step (first|(go_at_call 28;with_reducible exact qac (qax p1 _))|(go_at_call 28;with_reducible exact qac (qax p2 _))|(go_at_call 180;with_reducible exact qac (qbf p3 _))|(go_at_call 178;with_reducible exact qac (qat p4 _))|(go_at_call 177;exact qac (qa7 (qaz.later (Later.below _) d)))))
       refine wpQuiet_nil ?_;rintro g ⟨⟨_,c⟩,rfl⟩
       go_wp2
       go_ret;exact⟨rfl,qab (boxed (Below.refl _ _) _) c⟩
      ·have h:(d2==seq-1)=false:=by simp[b]
       rw[show (decide (qaq 2 d0 d1 d2 d3=seq-1)&&qe8 l)=false by simp[qaq,b]];clear b;go_enter func128,ntmps128
       go_wp2_with fail
       refine qaa (by kernel_rfl) (by kernel_rfl) ?_
       repeat (go_big_quiet_step (first|(go_at_call 28;with_reducible exact qac (qax p1 _))|(go_at_call 28;with_reducible exact qac (qax p2 _))|(go_at_call 180;with_reducible exact qac (qbf p3 _))|(go_at_call 178;with_reducible exact qac (qat p4 _))|(go_at_call 177;exact qac (qa7 (qaz.later (Later.below _) d)))))
       refine wpQuiet_nil ?_;rintro g ⟨⟨_,c⟩,rfl⟩
       go_wp2
       go_ret;exact⟨rfl,qab (boxed (Below.refl _ _) _) c⟩
     ·by_cases b:d3=seq-1
      ·have h:(d3==seq-1)=true:=by simp[b]
       rw[show (decide (qaq 3 d0 d1 d2 d3=seq-1)&&qe8 l)=qe8 l by simp[qaq,b]];clear b;go_enter func128,ntmps128
       go_wp2_with fail
       refine qaa (by kernel_rfl) (by kernel_rfl) ?_
       repeat (go_big_quiet_step (first|(go_at_call 28;with_reducible exact qac (qax p1 _))|(go_at_call 28;with_reducible exact qac (qax p2 _))|(go_at_call 180;with_reducible exact qac (qbf p3 _))|(go_at_call 178;with_reducible exact qac (qat p4 _))|(go_at_call 177;exact qac (qa7 (qaz.later (Later.below _) d)))))
       refine wpQuiet_nil ?_;rintro g ⟨⟨_,c⟩,rfl⟩
       go_wp2
       go_ret;exact⟨rfl,qab (boxed (Below.refl _ _) _) c⟩
      ·have h:(d3==seq-1)=false:=by simp[b]
       rw[show (decide (qaq 3 d0 d1 d2 d3=seq-1)&&qe8 l)=false by simp[qaq,b]];clear b;go_enter func128,ntmps128
       go_wp2_with fail
       refine qaa (by kernel_rfl) (by kernel_rfl) ?_
       repeat (go_big_quiet_step (first|(go_at_call 28;with_reducible exact qac (qax p1 _))|(go_at_call 28;with_reducible exact qac (qax p2 _))|(go_at_call 180;with_reducible exact qac (qbf p3 _))|(go_at_call 178;with_reducible exact qac (qat p4 _))|(go_at_call 177;exact qac (qa7 (qaz.later (Later.below _) d)))))
       refine wpQuiet_nil ?_;rintro g ⟨⟨_,c⟩,rfl⟩
       go_wp2
       go_ret;exact⟨rfl,qab (boxed (Below.refl _ _) _) c⟩
end
section
def qeh (w:World) (F:Nat->Option Obj) (log:List TxM):Prop:=∀k o,F k=some o->w.heap[k]?=some o/\∃m∈log,m.blk k
variable {w w':World} {F:Nat->Option Obj}
theorem qeh.to {log a:List TxM} (h:qeh w F log) (f:∀m∈log,∀k,m.blk k->w'.heap[k]?=w.heap[k]?) (g:∀m∈log,m∈a):qeh w' F a:=λk o e=>by
 obtain⟨i,m,c,d⟩:=h k o e;exact⟨(f m c k d).trans i,m,g m c,d⟩
variable {b:Nat} {lv wv sv:Value} {S:qaf}
theorem qeh.touch {log a waits:List TxM} (h:qeh w F log) (c:qco w b lv wv sv S log waits) (d:qae (qas b lv wv sv) w w') (f:∀m∈log,m∈a):qeh w' F a:=
 h.to (λm g k e=>have q:=c.hold m (List.mem_append.2 (.inl g));d.block k (q.1.blk_lt k e) (q.2 k e)) f
theorem qeh.later {log waits:List TxM} (h:qeh w F log) (a:qco w b lv wv sv S log waits) (hb:Below w.heap.size w w'):qeh w' F log:=h.touch a (qae.ofBelow hb) (λ_ c=>c)
def RS (w:World) (b:Nat) (G:Nat->Prop) (F:Nat->Option Obj) (S:qaf):Prop:=
 ∃lv wv sv log waits,qco w b lv wv sv S log waits/\log.map (·.t)=S.log/\waits.map (·.t)=S.waits/\(∀k,G k↔(qas b lv wv sv k\/∃m∈log++waits,m.blk k))/\qeh w F log
variable {G:Nat->Prop}
theorem RS.lt (h:RS w b G F S):∀k,G k->k<w.heap.size:=by
 obtain⟨lv,wv,sv,log,waits,h,_,_,c,_⟩:=h;intro k d;rcases(c k).1 d with a|⟨m,e,a⟩
 ·exact h.lt k a
 ·exact(h.hold m e).1.blk_lt k a
theorem RS.kept (h:RS w b G F S) (d:∀k,G k->w'.heap[k]?=w.heap[k]?) (hs:w.heap.size<=w'.heap.size):RS w' b G F S:=by
 obtain⟨lv,wv,sv,log,waits,h,f,g,a,i⟩:=h;exact⟨lv,wv,sv,log,waits,h.keptB (λk e=>d k ((a k).2 e)) hs,f,g,a,i.to (λm c k e=>d k ((a k).2 (.inr ⟨m,List.mem_append.2 (.inl c),e⟩))) (λ_ c=>c)⟩
theorem RS.later (h:RS w b G F S) (hb:Below w.heap.size w w'):RS w' b G F S:=h.kept (λk a=>hb.block k (h.lt k a)) hb.size
def RPo (w:World) (b:Nat) (G:Nat->Prop) (F:Nat->Option Obj) (S':qaf) (w':World):Prop:=∃G',RS w' b G' F S'/\(∀k,G' k->G k\/w.heap.size<=k)/\qae G w w'
variable {S':qaf}
theorem RPo.trans {a w2:World} {c:Nat->Prop} (d:∀k,c k->G k\/w.heap.size<=k) (e:qae G w a) (h:RPo a b c F S' w2):RPo w b G F S' w2:=by
 obtain⟨g,i,j,l⟩:=h;refine⟨g,i,λk m=>?_,e.more l d⟩;rcases j k m with f|f
 ·exact d k f
 ·exact .inr (by have:=e.size;omega)
theorem RPo.same (h:RS w b G F S) (hb:Below w.heap.size w w'):RPo w b G F S w':=⟨G,h.later hb,λ_ a=>.inl a,qae.ofBelow hb⟩
theorem qco.rewait {c:Value} {log waits g:List TxM} (h:qco w b lv wv sv S log waits) (d:∀k,(qas b lv wv sv k\/∃m∈log++waits,m.blk k)->k≠b->wv.ownBlock≠some k->w'.heap[k]?=w.heap[k]?) (v:qag w' b (qc5 S' lv c sv)) (r:S'.l=S.l)
 (y:w'.ownsRow 0 102 9 c g.length (qfi g)) (i:∀k,c.ownBlock=some k->w.heap.size<=k) (z:∀m∈g,m∈waits\/(qaz w' m.wa m.wc m.t.ws/\∀k,m.blk k->¬qas b lv wv sv k/\c.ownBlock≠some k)):qco w' b lv c sv S' log g:=by
 have s:∀k,qas b lv c sv k->qas b lv wv sv k\/c.ownBlock=some k:=λk d=>by
  rcases d with a|a|a|a
  ·exact .inl (.inl a)
  ·exact .inl (.inr (.inl a))
  ·exact .inr a
  ·exact .inl (.inr (.inr (.inr a)))
 have u:∀m∈log++waits,qaz w' m.wa m.wc m.t.ws/\∀k,m.blk k->¬qas b lv c sv k:=λm j=>by
  have q:=h.hold m j;refine⟨q.1.kept (λk e=>d k (.inr ⟨m,j,e⟩) (λx=>q.2 k e (.inl x)) (λx=>q.2 k e (.inr (.inr (.inl x))))),λk e n=>?_⟩;rcases s k n with a|a
  ·exact q.2 k e a
  ·have:=i k a;have:=q.1.blk_lt k e;omega
 refine⟨v,qad h.rlog (λk e=>d k (.inl (.inr (.inl e))) (λx=>h.nl (by rw[<-x];exact e)) (h.lw k e)),y,by rw[r];exact qad h.own (λk e=>d k (.inl (.inr (.inr (.inr e)))) (λx=>h.ns (by rw[<-x];exact e)) (λx=>h.ws k x e)),by rw[r];exact h.ok,h.nl,λe=>?_,h.ns,λk e o=>?_,h.ls,λk e o=>?_,λm j=>?_⟩
 ·have:=i b e;have:=h.box.lt;omega
 ·have:=i k o;have:=(h.rlog.lt k e).2;omega
 ·have:=i k e;have:=(h.own.lt k o).2;omega
 ·rcases List.mem_append.1 j with a|a
  ·exact u m (List.mem_append.2 (.inl a))
  ·rcases z m a with f|f
   ·exact u m (List.mem_append.2 (.inr f))
   ·refine⟨f.1,λk e n=>?_⟩;rcases s k n with p|p
    ·exact(f.2 k e).1 p
    ·exact(f.2 k e).2 p
end
section
open Go.Value Go.IntKind
theorem qq6 (a0 a1 a2 a3 b c d g:Int) (w:World):
 Calls Tryz.prog 83 #[.agg #[int i64 a0,int i64 a1,int i64 a2,int i64 a3],.agg #[int i64 b,int i64 c,int i64 d,int i64 g]] w λe w'=>e=.returned (.agg #[int i64 (qb9 a0 b),int i64 (qb9 a1 c),int i64 (qb9 a2 d),int i64 (qb9 a3 g)])/\Below w.heap.size w w':=by
 have o:=Later.one;go_enter Tryz.func83,Tryz.ntmps83
 go_wp2
 go_loopw [6] (λi wr=>∃(k:Nat) (z:Int),k<=4/\z=k/\i=int i64 z/\Below w.heap.size w wr/\qa9 wr w.heap.size (if 0<k then qb9 a0 b else a0) (if 1<k then qb9 a1 c else a1) (if 2<k then qb9 a2 d else a2) (if 3<k then qb9 a3 g else a3)/\qa9 wr (w.heap.size+1) b c d g/\qa9 wr (w.heap.size+1+1) 0 0 0 0) (λi _=>4-(intOf i).toNat)
 case atStart=>
  have x:=qa9.new w 77 a0 a1 a2 a3;have y:=qa9.new (w.alloc (.cells #[int i64 a0,int i64 a1,int i64 a2,int i64 a3] 77)) 77 b c d g;have z:=qa9.new ((w.alloc (.cells #[int i64 a0,int i64 a1,int i64 a2,int i64 a3] 77)).alloc (.cells #[int i64 b,int i64 c,int i64 d,int i64 g] 77)) 77 0 0 0 0;simp only[World.size_alloc]at y z;exact⟨0,0,by omega,rfl,rfl,boxed (boxed (boxed (Below.refl _ _) _) _) _,(x.later (boxed (Below.refl _ _) _)).later (boxed (Below.refl _ _) _),y.later (boxed (Below.refl _ _) _),z⟩
 case round=>
  obtain⟨k,z,m,l,rfl,hb,A,B,R⟩:=hrel
  have n:k=0\/k=1\/k=2\/k=3\/k=4:=by omega
  clear m;rcases n with rfl|rfl|rfl|rfl|rfl
  all_goals simp only[Nat.lt_irrefl,Nat.not_lt_zero,if_true,if_false,Nat.reduceLT]at A
  ·obtain rfl:z=0:=by omega
   clear l
   go_wp2
   have c0:=Later.cell A.c0;have c1:=Later.cell B.c0;by_cases h:a0<b
   ·refine qaa (by kernel_rfl) (by kernel_rfl) ?_
    repeat (go_big_quiet_step (fail))
    refine wpQuiet_nil ?_;rintro j ⟨⟨_,a⟩,rfl⟩;replace A:=A.later a;replace B:=B.later a;replace R:=R.later a;clear c0 c1;have d0:=A.c0;have d1:=B.c0;have d2:=A.f0
    go_wp2
    go_roundw
    case rel=>exact⟨1,1,by omega,rfl,by go_num,(qab hb a).setCell (by simp) _,by simpa[qj1 h]using A.set0 b,B.far _ _ (by simp),R.far _ _ (by simp;omega)⟩
    case measure=>simp[intOf]
   ·refine qaa (by kernel_rfl) (by kernel_rfl) ?_
    repeat (go_big_quiet_step (fail))
    refine wpQuiet_nil ?_;rintro j ⟨⟨_,a⟩,rfl⟩;replace A:=A.later a;replace B:=B.later a;replace R:=R.later a;clear c0 c1
    go_wp2
    go_roundw
    case rel=>exact⟨1,1,by omega,rfl,by go_num,qab hb a,by simpa[qj6 h]using A,B,R⟩
    case measure=>simp[intOf]
  ·obtain rfl:z=1:=by omega
   clear l
   go_wp2
   have c0:=Later.cell A.c1;have c1:=Later.cell B.c1;by_cases h:a1<c
   ·refine qaa (by kernel_rfl) (by kernel_rfl) ?_
    repeat (go_big_quiet_step (fail))
    refine wpQuiet_nil ?_;rintro j ⟨⟨_,a⟩,rfl⟩;replace A:=A.later a;replace B:=B.later a;replace R:=R.later a;clear c0 c1;have d0:=A.c1;have d1:=B.c1;have d2:=A.f1
    go_wp2
    go_roundw
    case rel=>exact⟨2,2,by omega,rfl,by go_num,(qab hb a).setCell (by simp) _,by simpa[qj1 h]using A.set1 c,B.far _ _ (by simp),R.far _ _ (by simp;omega)⟩
    case measure=>simp[intOf]
   ·refine qaa (by kernel_rfl) (by kernel_rfl) ?_
    repeat (go_big_quiet_step (fail))
    refine wpQuiet_nil ?_;rintro j ⟨⟨_,a⟩,rfl⟩;replace A:=A.later a;replace B:=B.later a;replace R:=R.later a;clear c0 c1
    go_wp2
    go_roundw
    case rel=>exact⟨2,2,by omega,rfl,by go_num,qab hb a,by simpa[qj6 h]using A,B,R⟩
    case measure=>simp[intOf]
  ·obtain rfl:z=2:=by omega
   clear l
   go_wp2
   have c0:=Later.cell A.c2;have c1:=Later.cell B.c2;by_cases h:a2<d
   ·refine qaa (by kernel_rfl) (by kernel_rfl) ?_
    repeat (go_big_quiet_step (fail))
    refine wpQuiet_nil ?_;rintro j ⟨⟨_,a⟩,rfl⟩;replace A:=A.later a;replace B:=B.later a;replace R:=R.later a;clear c0 c1;have d0:=A.c2;have d1:=B.c2;have d2:=A.f2
    go_wp2
    go_roundw
    case rel=>exact⟨3,3,by omega,rfl,by go_num,(qab hb a).setCell (by simp) _,by simpa[qj1 h]using A.set2 d,B.far _ _ (by simp),R.far _ _ (by simp;omega)⟩
    case measure=>simp[intOf]
   ·refine qaa (by kernel_rfl) (by kernel_rfl) ?_
    repeat (go_big_quiet_step (fail))
    refine wpQuiet_nil ?_;rintro j ⟨⟨_,a⟩,rfl⟩;replace A:=A.later a;replace B:=B.later a;replace R:=R.later a;clear c0 c1
    go_wp2
    go_roundw
    case rel=>exact⟨3,3,by omega,rfl,by go_num,qab hb a,by simpa[qj6 h]using A,B,R⟩
    case measure=>simp[intOf]
  ·obtain rfl:z=3:=by omega
   clear l
   go_wp2
   have c0:=Later.cell A.c3;have c1:=Later.cell B.c3;by_cases h:a3<g
   ·refine qaa (by kernel_rfl) (by kernel_rfl) ?_
    repeat (go_big_quiet_step (fail))
    refine wpQuiet_nil ?_;rintro j ⟨⟨_,a⟩,rfl⟩;replace A:=A.later a;replace B:=B.later a;replace R:=R.later a;clear c0 c1;have d0:=A.c3;have d1:=B.c3;have d2:=A.f3
    go_wp2
    go_roundw
    case rel=>exact⟨4,4,by omega,rfl,by go_num,(qab hb a).setCell (by simp) _,by simpa[qj1 h]using A.set3 g,B.far _ _ (by simp),R.far _ _ (by simp;omega)⟩
    case measure=>simp[intOf]
   ·refine qaa (by kernel_rfl) (by kernel_rfl) ?_
    repeat (go_big_quiet_step (fail))
    refine wpQuiet_nil ?_;rintro j ⟨⟨_,a⟩,rfl⟩;replace A:=A.later a;replace B:=B.later a;replace R:=R.later a;clear c0 c1
    go_wp2
    go_roundw
    case rel=>exact⟨4,4,by omega,rfl,by go_num,qab hb a,by simpa[qj6 h]using A,B,R⟩
    case measure=>simp[intOf]
  ·obtain rfl:z=4:=by omega
   clear l;obtain⟨c0,c1,c2,c3,f0,f1,f2,f3⟩:=A;obtain⟨d0,d1,d2,d3,p,q,r,s⟩:=R
   go_wp2
   exact bodyPost_ret (v:=.agg #[int i64 (qb9 a0 b),int i64 (qb9 a1 c),int i64 (qb9 a2 d),int i64 (qb9 a3 g)]) (by simp[results,Tryz.results83,go_sem,d0,d1,d2,d3]) rfl ⟨rfl,(((hb.setCell (by simp;omega) _).setCell (by simp;omega) _).setCell (by simp;omega) _).setCell (by simp;omega) _⟩
theorem qhz (a0 a1 a2 a3 b c d g:Int) (w:World):
 Calls Tryz.prog 86 #[.agg #[int i64 a0,int i64 a1,int i64 a2,int i64 a3],.agg #[int i64 b,int i64 c,int i64 d,int i64 g]] w λe w'=>e=.returned (.agg #[int i64 (qa6 a0 b),int i64 (qa6 a1 c),int i64 (qa6 a2 d),int i64 (qa6 a3 g)])/\Below w.heap.size w w':=by
 have o:=Later.one;go_enter Tryz.func86,Tryz.ntmps86
 go_wp2
 go_loopw [6] (λi wr=>∃(k:Nat) (z:Int),k<=4/\z=k/\i=int i64 z/\Below w.heap.size w wr/\qa9 wr w.heap.size (if 0<k then qa6 a0 b else a0) (if 1<k then qa6 a1 c else a1) (if 2<k then qa6 a2 d else a2) (if 3<k then qa6 a3 g else a3)/\qa9 wr (w.heap.size+1) b c d g/\qa9 wr (w.heap.size+1+1) 0 0 0 0) (λi _=>4-(intOf i).toNat)
 case atStart=>
  have x:=qa9.new w 77 a0 a1 a2 a3;have y:=qa9.new (w.alloc (.cells #[int i64 a0,int i64 a1,int i64 a2,int i64 a3] 77)) 77 b c d g;have z:=qa9.new ((w.alloc (.cells #[int i64 a0,int i64 a1,int i64 a2,int i64 a3] 77)).alloc (.cells #[int i64 b,int i64 c,int i64 d,int i64 g] 77)) 77 0 0 0 0;simp only[World.size_alloc]at y z;exact⟨0,0,by omega,rfl,rfl,boxed (boxed (boxed (Below.refl _ _) _) _) _,(x.later (boxed (Below.refl _ _) _)).later (boxed (Below.refl _ _) _),y.later (boxed (Below.refl _ _) _),z⟩
 case round=>
  obtain⟨k,z,m,l,rfl,hb,A,B,R⟩:=hrel
  have n:k=0\/k=1\/k=2\/k=3\/k=4:=by omega
  clear m;rcases n with rfl|rfl|rfl|rfl|rfl
  all_goals simp only[Nat.lt_irrefl,Nat.not_lt_zero,if_true,if_false,Nat.reduceLT]at A
  ·obtain rfl:z=0:=by omega
   clear l
   go_wp2
   have c0:=Later.cell A.c0;have c1:=Later.cell B.c0;by_cases h:b<a0
   ·refine qaa (by kernel_rfl) (by kernel_rfl) ?_
    repeat (go_big_quiet_step (fail))
    refine wpQuiet_nil ?_;rintro j ⟨⟨_,a⟩,rfl⟩;replace A:=A.later a;replace B:=B.later a;replace R:=R.later a;clear c0 c1;have d0:=A.c0;have d1:=B.c0;have d2:=A.f0
    go_wp2
    go_roundw
    case rel=>exact⟨1,1,by omega,rfl,by go_num,(qab hb a).setCell (by simp) _,by simpa[ql8 h]using A.set0 b,B.far _ _ (by simp),R.far _ _ (by simp;omega)⟩
    case measure=>simp[intOf]
   ·refine qaa (by kernel_rfl) (by kernel_rfl) ?_
    repeat (go_big_quiet_step (fail))
    refine wpQuiet_nil ?_;rintro j ⟨⟨_,a⟩,rfl⟩;replace A:=A.later a;replace B:=B.later a;replace R:=R.later a;clear c0 c1
    go_wp2
    go_roundw
    case rel=>exact⟨1,1,by omega,rfl,by go_num,qab hb a,by simpa[qmg h]using A,B,R⟩
    case measure=>simp[intOf]
  ·obtain rfl:z=1:=by omega
   clear l
   go_wp2
   have c0:=Later.cell A.c1;have c1:=Later.cell B.c1;by_cases h:c<a1
   ·refine qaa (by kernel_rfl) (by kernel_rfl) ?_
    repeat (go_big_quiet_step (fail))
    refine wpQuiet_nil ?_;rintro j ⟨⟨_,a⟩,rfl⟩;replace A:=A.later a;replace B:=B.later a;replace R:=R.later a;clear c0 c1;have d0:=A.c1;have d1:=B.c1;have d2:=A.f1
    go_wp2
    go_roundw
    case rel=>exact⟨2,2,by omega,rfl,by go_num,(qab hb a).setCell (by simp) _,by simpa[ql8 h]using A.set1 c,B.far _ _ (by simp),R.far _ _ (by simp;omega)⟩
    case measure=>simp[intOf]
   ·refine qaa (by kernel_rfl) (by kernel_rfl) ?_
    repeat (go_big_quiet_step (fail))
    refine wpQuiet_nil ?_;rintro j ⟨⟨_,a⟩,rfl⟩;replace A:=A.later a;replace B:=B.later a;replace R:=R.later a;clear c0 c1
    go_wp2
    go_roundw
    case rel=>exact⟨2,2,by omega,rfl,by go_num,qab hb a,by simpa[qmg h]using A,B,R⟩
    case measure=>simp[intOf]
  ·obtain rfl:z=2:=by omega
   clear l
   go_wp2
   have c0:=Later.cell A.c2;have c1:=Later.cell B.c2;by_cases h:d<a2
   ·refine qaa (by kernel_rfl) (by kernel_rfl) ?_
    repeat (go_big_quiet_step (fail))
    refine wpQuiet_nil ?_;rintro j ⟨⟨_,a⟩,rfl⟩;replace A:=A.later a;replace B:=B.later a;replace R:=R.later a;clear c0 c1;have d0:=A.c2;have d1:=B.c2;have d2:=A.f2
    go_wp2
    go_roundw
    case rel=>exact⟨3,3,by omega,rfl,by go_num,(qab hb a).setCell (by simp) _,by simpa[ql8 h]using A.set2 d,B.far _ _ (by simp),R.far _ _ (by simp;omega)⟩
    case measure=>simp[intOf]
   ·refine qaa (by kernel_rfl) (by kernel_rfl) ?_
    repeat (go_big_quiet_step (fail))
    refine wpQuiet_nil ?_;rintro j ⟨⟨_,a⟩,rfl⟩;replace A:=A.later a;replace B:=B.later a;replace R:=R.later a;clear c0 c1
    go_wp2
    go_roundw
    case rel=>exact⟨3,3,by omega,rfl,by go_num,qab hb a,by simpa[qmg h]using A,B,R⟩
    case measure=>simp[intOf]
  ·obtain rfl:z=3:=by omega
   clear l
   go_wp2
   have c0:=Later.cell A.c3;have c1:=Later.cell B.c3;by_cases h:g<a3
   ·refine qaa (by kernel_rfl) (by kernel_rfl) ?_
    repeat (go_big_quiet_step (fail))
    refine wpQuiet_nil ?_;rintro j ⟨⟨_,a⟩,rfl⟩;replace A:=A.later a;replace B:=B.later a;replace R:=R.later a;clear c0 c1;have d0:=A.c3;have d1:=B.c3;have d2:=A.f3
    go_wp2
    go_roundw
    case rel=>exact⟨4,4,by omega,rfl,by go_num,(qab hb a).setCell (by simp) _,by simpa[ql8 h]using A.set3 g,B.far _ _ (by simp),R.far _ _ (by simp;omega)⟩
    case measure=>simp[intOf]
   ·refine qaa (by kernel_rfl) (by kernel_rfl) ?_
    repeat (go_big_quiet_step (fail))
    refine wpQuiet_nil ?_;rintro j ⟨⟨_,a⟩,rfl⟩;replace A:=A.later a;replace B:=B.later a;replace R:=R.later a;clear c0 c1
    go_wp2
    go_roundw
    case rel=>exact⟨4,4,by omega,rfl,by go_num,qab hb a,by simpa[qmg h]using A,B,R⟩
    case measure=>simp[intOf]
  ·obtain rfl:z=4:=by omega
   clear l;obtain⟨c0,c1,c2,c3,f0,f1,f2,f3⟩:=A;obtain⟨d0,d1,d2,d3,p,q,r,s⟩:=R
   go_wp2
   exact bodyPost_ret (v:=.agg #[int i64 (qa6 a0 b),int i64 (qa6 a1 c),int i64 (qa6 a2 d),int i64 (qa6 a3 g)]) (by simp[results,Tryz.results86,go_sem,d0,d1,d2,d3]) rfl ⟨rfl,(((hb.setCell (by simp;omega) _).setCell (by simp;omega) _).setCell (by simp;omega) _).setCell (by simp;omega) _⟩
end
theorem quz {b k:Nat} {wv:Value} {s:qbn} {G:Nat->Prop} {F:Nat->Option Obj} {S:qaf} (w:World) (h:qmo w b wv s) (o:RS w k G F S) (p:¬G b):
 Calls Tryz.prog 31 #[.pointer (some ⟨b,0,none⟩),.pointer (some ⟨k,0,none⟩)] w λe w'=>e=.returned (.int .i64 (qps S s))/\qlj w b wv (qpb S s) w':=by
 obtain⟨lv,t,sv,log,waits,M,_,_,i,_⟩:=o;have u:=Later.one;have nb:b≠k:=λe=>p ((i b).2 (.inl (.inl e)));have l:Hid _:=h;have q:Hid _:=M;have m:=h.box.cell 8 _ rfl;cases ho:s.opn
 ·have l0:=Later.cell (h.box.cell 0 _ rfl);have l1:=Later.cell (h.box.cell 1 _ rfl);have l2:=Later.cell (h.box.cell 2 _ rfl);have l3:=Later.cell (h.box.cell 3 _ rfl);have x1:=Later.cell (M.box.cell 1 _ rfl);have x2:=Later.cell (M.box.cell 2 _ rfl);have x3:=Later.cell (M.box.cell 3 _ rfl);have r:=Later.cell (M.box.cell 4 _ rfl);rw[ho]at m;have n:Hid _:=ho;cases hc:qfu S.a0 S.a1 S.a2 S.a3 s.p0 s.p1 s.p2 s.p3
  ·have d:Hid _:=hc
   have c:Hid (qps S s=10):=by show _=_;unfold qps;rw[n.out,d.out];rfl
   clear h M ho hc i;go_enter Tryz.func31,Tryz.ntmps31
   go_wp2_with fail
   refine qaa (by kernel_rfl) (by kernel_rfl) ?_
   repeat (go_big_quiet_step (first|rfl|(go_at_call 77;with_reducible exact qac (qbj d.out _))))
   refine wpQuiet_nil ?_;rintro w2 ⟨⟨_,g⟩,rfl⟩
   go_wp2_with fail
   go_ret;refine⟨by rw[c.out];rfl,?_⟩;rw[show qpb S s=s by unfold qpb;rw[if_neg (by rw[c.out];decide)]];exact qlj.same l.out g
  ·have d:Hid _:=hc
   have c:Hid (qps S s=0):=by show _=_;unfold qps;rw[n.out,d.out];rfl
   clear h M ho hc i;go_enter Tryz.func31,Tryz.ntmps31
   go_wp2_with fail
   refine qaa (by kernel_rfl) (by kernel_rfl) ?_
   repeat (go_big_quiet_step (first|rfl|(go_at_call 77;with_reducible exact qac (qbj d.out _))))
   refine wpQuiet_nil ?_;rintro w2 ⟨⟨_,g⟩,rfl⟩;have a:=l.out.box.later g;have j:=q.out.box.later g;clear m l0 l1 l2 l3 x1 x2 x3 r;have v:=j.cell 1 _ rfl;have x:=j.cell 2 _ rfl;have y:=j.cell 3 _ rfl;have z:=j.cell 4 _ rfl;have z4:=a.cell 4 _ rfl;have z5:=a.cell 5 _ rfl;have B:=a.cell 6 _ rfl;have C:=a.cell 7 _ rfl;have D:=a.cell 8 _ rfl;have z9:=a.cell 9 _ rfl;have E:=a.free 4 (by simp[qbw]);have H:=a.free 5 (by simp[qbw]);have f6:=a.free 6 (by simp[qbw]);have f7:=a.free 7 (by simp[qbw]);have f8:=a.free 8 (by simp[qbw]);have f9:=a.free 9 (by simp[qbw])
   go_wp2_with fail
   go_ret;refine⟨by rw[c.out];rfl,?_⟩;rw[show qpb S s={s with opn:=true,s0:=S.a0,s1:=S.a1,s2:=S.a2,s3:=S.a3,ws:=[]} by unfold qpb;rw[if_pos c.out]];exact jbj g a S.a0 S.a1 S.a2 S.a3
 ·rw[ho]at m
  have c:Hid (qps S s=6):=by show _=_;unfold qps;rw[ho];rfl
  clear h M ho i;go_enter Tryz.func31,Tryz.ntmps31
  go_wp2_with fail
  go_ret;refine⟨by rw[c.out];rfl,?_⟩;rw[show qpb S s=s by unfold qpb;rw[if_neg (by rw[c.out];decide)]];exact qlj.same l.out (Below.refl _ _)
section
open Go.Value Go.IntKind
variable {b:Nat}
theorem qis {tmps:Array Value} {w:World} {v:Ver} {ev:Int} (h:qag w b (qah v)) (a:tmps[6]?=some (.pointer (some ⟨b,0,none⟩))) (c:tmps[7]?=some (int i64 ev)):
 (results Tryz.f79 tmps).run Tryz.prog w=.ok (.tuple #[.agg (qah v).toArray,int i64 ev]) w:=by
 obtain⟨z0,d,z2,z3,z4,z5⟩:=h.c6;simp[results,Tryz.results79,go_sem,a,c,z0,d,z2,z3,z4,z5,qah]
theorem qof {lv wv sv:Value} {S:qaf} {log waits:List TxM} (key a0 a1 a2 a3:Int) (w:World) (h:qco w b lv wv sv S log waits) (D:S.l.length<=1000000):
 Calls Tryz.prog 79 #[.pointer (some ⟨b,0,none⟩),int i64 key,.agg #[int i64 a0,int i64 a1,int i64 a2,int i64 a3]] w λe w'=>
  e=.returned (.tuple #[.agg (qah (qfe S key a0 a1 a2 a3).1).toArray,int i64 (qfe S key a0 a1 a2 a3).2])/\Below w.heap.size w w':=by
 have g:=(qa9.new w 77 a0 a1 a2 a3).boxed (.cells #[int i64 0,int i64 0,int i64 0,int i64 0,.string ⟨#[]⟩,.bool false] 130);have c:qag ((w.alloc (.cells #[int i64 a0,int i64 a1,int i64 a2,int i64 a3] 77)).alloc (.cells #[int i64 0,int i64 0,int i64 0,int i64 0,.string ⟨#[]⟩,.bool false] 130)) (w.heap.size+1) (qah qc6):=qag.new (w:=w.alloc (.cells #[int i64 a0,int i64 a1,int i64 a2,int i64 a3] 77)) (T:=130) (n:=w.heap.size+1) [int i64 0,int i64 0,int i64 0,int i64 0,.string ⟨#[]⟩,.bool false] (by simp);have hb:=boxed (boxed (Below.refl _ w) (.cells #[int i64 a0,int i64 a1,int i64 a2,int i64 a3] 77)) (.cells #[int i64 0,int i64 0,int i64 0,int i64 0,.string ⟨#[]⟩,.bool false] 130);have i:Hid _:=h.later hb;have W:Hid _:=h;clear h;have E:=Later.cell (i.out.box.cell 1 _ rfl);have F:=Later.cell (i.out.box.cell 2 _ rfl);have G:=Later.cell (i.out.box.cell 3 _ rfl);have H:=Later.cell (i.out.box.cell 4 _ rfl);have c0:=Later.cell g.c0;have c1:=Later.cell g.c1;have c2:=Later.cell g.c2;have c3:=Later.cell g.c3;go_enter Tryz.func79,Tryz.ntmps79
 go_wp2_with fail
 refine qaa (by kernel_rfl) (by kernel_rfl) ?_
 repeat (go_big_quiet_step (first|rfl|(go_at_call 77;exact qac (qmd _ _ _ _ _ _ _ _ _))))
 refine wpQuiet_nil ?_;rintro p ⟨⟨_,j⟩,rfl⟩;replace c:=c.later j;replace g:=qa9.later j g;replace hb:=qab hb j;have r:Hid _:=i.out.later j;clear i E F G H c0 c1 c2 c3 j;cases hc:qfu S.a0 S.a1 S.a2 S.a3 a0 a1 a2 a3
 ·have s:Hid (qfe S key a0 a1 a2 a3=(qc6,10)):=by show qfe S key a0 a1 a2 a3=(qc6,10);unfold qfe;rw[hc];rfl
  have I:=c.cell 0 _ rfl;have p0:=c.free 0 (by simp[qah]);have J:=c.cell 1 _ rfl;have p1:=c.free 1 (by simp[qah]);have K:=c.cell 2 _ rfl;have p2:=c.free 2 (by simp[qah]);have L:=c.cell 3 _ rfl;have p3:=c.free 3 (by simp[qah]);have M:=c.cell 4 _ rfl;have N:=c.free 4 (by simp[qah]);have O:=c.cell 5 _ rfl;have P:=c.free 5 (by simp[qah]);have u:=qsq c 0 0 0 0 ⟨#[]⟩ false;have y:=qse hb (show w.heap.size<=w.heap.size+1 by omega) 0 0 0 0 ⟨#[]⟩ false;clear hc
  go_wp2_with fail
  refine bodyPost_ret (qis (v:=qc6) u rfl rfl) rfl ⟨?_,y⟩;rw[s.out]
 ·obtain⟨⟨⟨wl,k,st,m,o,gn⟩,ev⟩,q⟩:∃x,qdu key a0 a1 a2 a3 S.l=x:=⟨_,rfl⟩
  have s:Hid (qfe S key a0 a1 a2 a3=(⟨wl,k,st,m,o,gn⟩,ev)):=by show qfe S key a0 a1 a2 a3=_;unfold qfe;rw[hc,<-q];rfl
  obtain⟨a,cap,B,C⟩:=qjz r.out.own
  have Q:Hid (Calls Tryz.prog 91 #[.pointer (some ⟨b,9,none⟩),int i64 key,.agg #[int i64 a0,int i64 a1,int i64 a2,int i64 a3]] p.drew λe w'=>e=.returned (.tuple #[.agg #[int i64 wl,int i64 k,int i64 st,int i64 m,.string o,.bool gn],int i64 ev])/\qa9 w' w.heap.size a0 a1 a2 a3/\qag w' (w.heap.size+1) (qah qc6)/\Below w.heap.size w w'):=by
   have R:p.cell? ⟨b,9,none⟩=some (.slice a S.l.length cap):=by rw[<-B];exact r.out.box.cell 9 _ rfl
   refine(qu6 key a0 a1 a2 a3 p.drew R (C.later (Below.refl _ p).drew) r.out.ok D).mono ?_;rintro e w' ⟨rfl,z⟩;refine⟨by rw[q];rfl,qa9.later z g.drew,c.drew.later z,qab hb.drew z⟩
  have X:Hid _:=q;have Y:=λ(w':World) (h:qa9 w' w.heap.size a0 a1 a2 a3)=>h.c0;have Z:=λ(w':World) (h:qa9 w' w.heap.size a0 a1 a2 a3)=>h.c1;have T2:=λ(w':World) (h:qa9 w' w.heap.size a0 a1 a2 a3)=>h.c2;have T3:=λ(w':World) (h:qa9 w' w.heap.size a0 a1 a2 a3)=>h.c3;have RA0:=g.drew
  have U:w.heap.size+1≠w.heap.size:=by omega
  clear hc q C B g c
  go_wp2_with fail
  go_region_held3 (λw'=>qa9 w' w.heap.size a0 a1 a2 a3) (first|(with_reducible assumption)|(with_reducible exact qxk (by with_reducible assumption) U _ _ _ _ _ _))
   (first|(go_at_call 91;with_reducible refine Q.out.mono ?_;rintro e w5 ⟨rfl,RA5,d,V⟩;have I:=d.cell 0 _ rfl;have p0:=d.free 0 (by simp[qah]);have J:=d.cell 1 _ rfl;have p1:=d.free 1 (by simp[qah]);have K:=d.cell 2 _ rfl;have p2:=d.free 2 (by simp[qah]);have L:=d.cell 3 _ rfl;have p3:=d.free 3 (by simp[qah]);have M:=d.cell 4 _ rfl;have N:=d.free 4 (by simp[qah]);have O:=d.cell 5 _ rfl;have P:=d.free 5 (by simp[qah])))
  all_goals
   have u:=qsq d wl k st m o gn;have y:=qse V (show w.heap.size<=w.heap.size+1 by omega) wl k st m o gn
   go_wp2_with fail
   refine bodyPost_ret (qis (v:=⟨wl,k,st,m,o,gn⟩) u rfl rfl) rfl ⟨?_,y⟩;rw[s.out]
end
section
variable {b:Nat} {G:Nat->Prop} {F:Nat->Option Obj} {S:qaf}
theorem q46 (key a0 a1 a2 a3:Int) (w:World) (h:RS w b G F S) (a:qcx S):
 Calls Tryz.prog 79 #[.pointer (some ⟨b,0,none⟩),.int .i64 key,.agg #[.int .i64 a0,.int .i64 a1,.int .i64 a2,.int .i64 a3]] w λe w'=>
  e=.returned (.tuple #[.agg (qah (qfe S key a0 a1 a2 a3).1).toArray,.int .i64 (qfe S key a0 a1 a2 a3).2])/\Below w.heap.size w w':=by
 obtain⟨lv,wv,sv,log,waits,h,_,_,_⟩:=h;exact qof key a0 a1 a2 a3 w h (by have:=a.len;have:=a.log;omega)
theorem RS.of {w w':World} {lv wv sv g h i:Value} {S':qaf} {log waits a:List TxM} (o:a.map (·.t)=S'.log) (p:waits.map (·.t)=S'.waits) (f:∀k,G k↔(qas b lv wv sv k\/∃m∈log++waits,m.blk k)) (M:qco w' b g h i S' a waits) (q:∀k,qas b g h i k->qas b lv wv sv k\/w.heap.size<=k) (c:qae (qas b lv wv sv) w w')
 (r:qeh w' F a) (nl:∀m∈a,m∈log\/∀k,m.blk k->w.heap.size<=k):RPo w b G F S' w':=by
 refine⟨_,⟨g,h,i,a,waits,M,o,p,λk=>Iff.rfl,r⟩,λk j=>?_,⟨c.os,c.tape,c.output,c.size,λk j s=>c.block k j (λe=>s ((f k).2 (.inl e)))⟩⟩;rcases j with d|⟨m,u,d⟩
 ·exact(q k d).imp (λe=>(f k).2 (.inl e)) id
 ·rcases List.mem_append.1 u with l|l
  ·rcases nl m l with n|n
   ·exact .inl ((f k).2 (.inr ⟨m,List.mem_append.2 (.inl n),d⟩))
   ·exact .inr (n k d)
  ·exact .inl ((f k).2 (.inr ⟨m,List.mem_append.2 (.inr l),d⟩))
def jd3 (F:Nat->Option Obj) (m:TxM) (F':Nat->Option Obj):Prop:=(∀k o,F k=some o->F' k=some o)/\∀k,m.blk k->∃o,F' k=some o
def q4r (w:World) (b:Nat) (G:Nat->Prop) (F:Nat->Option Obj) (S:qaf) (now d0 d1 d2 d3:Int) (ws:List Wr) (e:Ending) (w':World):Prop:=
 ∃m:TxM,e=.returned (.tuple #[txV m,.int .i64 (qnc S now d0 d1 d2 d3 ws)])/\m.t=qo6 S now d0 d1 d2 d3 ws/\Hid (qaz w' m.wa m.wc m.t.ws/\∃F',jd3 F m F'/\RPo w b G F' (qmt S now d0 d1 d2 d3 ws) w')/\∀k,m.blk k->w.heap.size<=k
theorem qw1 (now d0 d1 d2 d3:Int) {a:Option Addr} {cap:Nat} {ws:List Wr} (w:World) (h:RS w b G F S) (C:qcx S) (t:qaz w a cap ws) (D:∀k j,ws≠[]->a=some ⟨k,j,none⟩->¬G k):
 Calls Tryz.prog 127 #[.pointer (some ⟨b,0,none⟩),.int .i64 now,.agg #[.int .i64 d0,.int .i64 d1,.int .i64 d2,.int .i64 d3],.slice a ws.length cap] w (q4r w b G F S now d0 d1 d2 d3 ws):=by
 have E:=h;obtain⟨lv,wv,sv,log,waits,i,u,H,v,y⟩:=h
 have z:log.length=S.log.length:=by rw[<-u];simp
 have l:qa1 S log.length now d0 d1 d2 d3 ws=qnc S now d0 d1 d2 d3 ws:=by rw[z];rfl
 by_cases g:qa1 S log.length now d0 d1 d2 d3 ws=0
 ·have d:qnc S now d0 d1 d2 d3 ws=0:=by rw[<-l];exact g
  refine(qso now d0 d1 d2 d3 w i C z t (λk j I J K=>D k j I J ((v k).2 (.inl K))) g).mono λe w' n=>?_;obtain⟨wa,wc,R,T,p,M,L,B,q⟩:=n
  ·refine⟨⟨qcd S now d0 d1 d2 d3 ws,wa,wc⟩,by rw[p,d];rfl,by unfold qo6;rw[if_pos d],⟨(M.hold _ (List.mem_append.2 (.inl (List.mem_append.2 (.inr (List.mem_singleton.2 rfl)))))).1,?_⟩,q⟩;have N:=(M.hold _ (List.mem_append.2 (.inl (List.mem_append.2 (.inr (List.mem_singleton.2 rfl)))))).1
   have hold:∀k o,F k=some o->¬(⟨qcd S now d0 d1 d2 d3 ws,wa,wc⟩:TxM).blk k:=λk o e c=>by
        obtain⟨_,m,r,O⟩:=y k o e;have:=(i.hold m (List.mem_append.2 (.inl r))).1.blk_lt k O;have:=q k c;omega
   classical
   refine⟨λk=>if (⟨qcd S now d0 d1 d2 d3 ws,wa,wc⟩:TxM).blk k then w'.heap[k]?else F k,⟨λk o e=>by simp only;rw[if_neg (hold k o e)];exact e,λk c=>⟨w'.heap[k]'(N.blk_lt k c),by simp only;rw[if_pos c];exact Array.getElem?_eq_getElem _⟩⟩,?_⟩;unfold qmt;rw[if_pos d];refine RS.of (by rw[List.map_append,u];rfl) H v M L B (λk o e=>?_) (λm r=>?_)
   ·by_cases c:(⟨qcd S now d0 d1 d2 d3 ws,wa,wc⟩:TxM).blk k
    ·rw[if_pos c]at e;exact⟨e,_,List.mem_append.2 (.inr (List.mem_singleton.2 rfl)),c⟩
    ·rw[if_neg c]at e;exact y.touch i B (λx P=>List.mem_append.2 (.inl P)) k o e
   rcases List.mem_append.1 r with s|s
   ·exact .inl s
   ·rw[List.mem_singleton.1 s];exact .inr q
 ·have d:qnc S now d0 d1 d2 d3 ws≠0:=by rw[<-l];exact g
  refine(qtp now d0 d1 d2 d3 w i t g).mono λe w' n=>?_;rcases n with ⟨_,p,hb⟩|⟨Q,_⟩
  ·refine⟨tx0,by rw[p,l];rfl,by unfold qo6;rw[if_neg d];rfl,⟨⟨Nat.le_refl _,by decide,.inl rfl⟩,?_⟩,λk c=>absurd rfl c.1⟩;refine⟨F,⟨λ_ _ e=>e,λk c=>absurd rfl c.1⟩,?_⟩;unfold qmt;rw[if_neg d];exact RPo.same E hb
  ·exact absurd Q g
end
section
def qip (b:Nat) (F:Nat->Option Obj) (S:qaf):qnm:=⟨λw G=>RS w b G F S,λ_ _ h=>h.lt,λ_ _ _ h=>h.kept⟩
def RSe (w:World) (b:Nat) (G:Nat->Prop) (s:qbn):Prop:=∃wv,qmo w b wv s/\∀k,G k↔(k=b\/wv.ownBlock=some k)
variable {w:World} {b:Nat} {G:Nat->Prop} {s:qbn}
theorem RSe.lt (h:RSe w b G s):∀k,G k->k<w.heap.size:=by
 obtain⟨wv,h,a⟩:=h;intro k c;rcases(a k).1 c with e|e
 ·rw[e];exact h.box.lt
 ·exact(h.row.lt k e).2
variable {w':World}
theorem RSe.kept (h:RSe w b G s) (c:∀k,G k->w'.heap[k]?=w.heap[k]?) (hs:w.heap.size<=w'.heap.size):RSe w' b G s:=by
 obtain⟨wv,h,a⟩:=h;exact⟨wv,⟨h.box.kept (c b ((a b).2 (.inl rfl))) hs,qad h.row (λk e=>c k ((a k).2 (.inr e))),h.nb⟩,a⟩
def qu3 (b:Nat) (s:qbn):qnm:=⟨λw G=>RSe w b G s,λ_ _ h=>h.lt,λ_ _ _ h=>h.kept⟩
theorem qlj.left {wv:Value} {g:qbn} (c:∀k,G k↔(k=b\/wv.ownBlock=some k)) (h:qlj w b wv g w'):qg0 (qu3 b g) w G w':=by
 obtain⟨i,j,l,a⟩:=h;refine⟨λk=>k=b\/i.ownBlock=some k,⟨i,j,λ_=>Iff.rfl⟩,λk d=>?_,⟨a.os,a.tape,a.output,a.size,λk d m=>a.block k d (λe=>m ((c k).2 e))⟩⟩;rcases d with e|e
 ·exact .inl ((c k).2 (.inl e))
 ·rcases l k e with f|f
  ·exact .inl ((c k).2 (.inr f))
  ·exact .inr f
theorem jb5 (T:TypeId):RSe (w.alloc (.cells (qbw qia (.slice none 0 0)).toArray T)) w.heap.size (λk=>k=w.heap.size) qia:=
 ⟨.slice none 0 0,⟨qag.new (w:=w) (T:=T) _ rfl,World.ownsRow_nil _ _ _ _,by simp[Value.ownBlock]⟩,λk=>⟨λh=>.inl h,λh=>by simpa[Value.ownBlock]using h⟩⟩
def q7v (w:World) (b bx:Nat) (G Gx:Nat->Prop) (F:Nat->Option Obj) (S:qaf) (s:qbn) (now:Int) (e:Ending) (w':World):Prop:=
 ∃m:TxM,e=.returned (.tuple #[txV m,.int .i64 (qgo S s now)])/\m.t=qe7 S s now/\Hid (qaz w' m.wa m.wc m.t.ws/\∃F',jd3 F m F'/\qki (qu3 b (qbe S s now)) (qip bx F' (qe9 S s now)) w G Gx m.blk w')
end
section
def qlf (bp:Nat->Nat) (n:Nat):List Value:=(List.range n).map (λi=>.pointer (some ⟨bp i,0,none⟩))
def qh5 (x:Nat->Int) (n:Nat):List Value:=(List.range n).map (λi=>.int .i64 (x i))
theorem qnb (x:Nat->Int) (n:Nat):(qh5 x n).length=n:=by simp[qh5]
variable {n i:Nat}
theorem qr9 {bp:Nat->Nat} (hi:i<n):(qlf bp n)[i]?=some (.pointer (some ⟨bp i,0,none⟩)):=by
 unfold qlf;rw[List.getElem?_map,List.getElem?_range hi];rfl
theorem qkz {x:Nat->Int} (hi:i<n):(qh5 x n)[i]?=some (.int .i64 (x i)):=by
 unfold qh5;rw[List.getElem?_map,List.getElem?_range hi];rfl
structure GrR where
 g:GrS
 wa:Option Addr
 wc:Nat
def grT:GrB->TxP
 |.tx t=>t
 |.ask ..=>tx0.t
def grA:GrB->Int×Int×Int×Int×Int
 |.tx _=>(0,0,0,0,0)
 |.ask s a0 a1 a2 a3=>(s,a0,a1,a2,a3)
def GrR.m (x:GrR):TxM:=⟨grT x.g.body,x.wa,x.wc⟩
def qd9 (x:GrR):List Value:=.int .i64 x.g.to::(txC x.m++[.int .i64 (grA x.g.body).1,.int .i64 (grA x.g.body).2.1,.int .i64 (grA x.g.body).2.2.1,.int .i64 (grA x.g.body).2.2.2.1,.int .i64 (grA x.g.body).2.2.2.2])
def qiw (l:List GrR):List Value:=l.flatMap qd9
theorem qe1 (x:GrR):(qd9 x).length=15:=rfl
theorem qvl (l:List GrR):(qiw l).length=l.length*15:=by
 induction l with
 |nil=>rfl
 |cons x l ih=>
  show (qd9 x++qiw l).length=_;rw[List.length_append,ih,qe1];simp;omega
theorem q39 (l:List GrR) (x:GrR):qiw (l++[x])=qiw l++qd9 x:=by simp[qiw]
theorem q16:∀{l:List GrR} {i r:Nat} {x:GrR} {u:Value},l[i]?=some x->(qd9 x)[r]?=some u->(qiw l)[i*15+r]?=some u
 |[],i,r,x,u,h,_=>by simp at h
 |y::l,0,r,x,u,h,hu=>by
  have e:y=x:=by simpa using h
  subst e
  have a:r<15:=by have:=(List.getElem?_eq_some_iff.1 hu).1;rw[qe1]at this;exact this
  show (qd9 y++qiw l)[_]?=_;rw[Nat.zero_mul,Nat.zero_add,List.getElem?_append_left (by rw[qe1];exact a)];exact hu
 |y::l,i+1,r,x,u,h,hu=>by
  have c:l[i]?=some x:=by simpa using h
  show (qd9 y++qiw l)[_]?=_;rw[List.getElem?_append_right (by rw[qe1];omega),qe1,show (i+1)*15+r-15=i*15+r by omega];exact q16 c hu
structure GrR.Ok (w:World) (n:Nat) (F:Nat->Nat->Option Obj) (x:GrR):Prop where
 wi:qaz w x.m.wa x.m.wc x.m.t.ws
 fr:∀k,x.m.blk k->∃i o,i<n/\F i k=some o
 none:∀s a0 a1 a2 a3,x.g.body=.ask s a0 a1 a2 a3->x.wa=none/\x.wc=0
structure RoM where
 sv:Value
 wv:Value
 cv:Value
 av:Value
 yv:Value
 bp:Nat->Nat
 bs:Nat->Nat
 F:Nat->Nat->Option Obj
 l:List GrR
def qeq (b:Nat) (M:RoM):List (Option Nat):=[some b,M.sv.ownBlock,M.wv.ownBlock,M.cv.ownBlock,M.av.ownBlock,M.yv.ownBlock]
def qak (b:Nat) (M:RoM) (k:Nat):Prop:=some k∈qeq b M
def qfv (M:RoM) (W:WoS):Nat->qnm:=λi=>if i<W.n then qip (M.bp i) (M.F i) (W.S i)else qu3 (M.bs (i-W.n)) (W.ses (i-W.n))
structure RWo (w:World) (b:Nat) (M:RoM) (W:WoS) (Gs:Nat->Nat->Prop):Prop where
 box:qag w b [M.sv,M.wv,M.cv,M.av,M.yv,.int .i64 W.lost]
 sr:w.ownsRow 0 75 1 M.sv W.n (qlf M.bp W.n)
 wr:w.ownsRow 0 3 1 M.wv W.n (qh5 W.wall W.n)
 cr:w.ownsRow 0 87 1 M.cv W.c (qlf M.bs W.c)
 ar:w.ownsRow 0 3 1 M.av W.c (qh5 (λk=>(W.at_ k:Int)) W.c)
 yr:w.ownsRow 0 108 15 M.yv M.l.length (qiw M.l)
 nl:M.l.map (·.g)=W.net
 gr:∀x∈M.l,x.Ok w W.n M.F
 fam:qci w (W.n+W.c) (qfv M W) Gs (qak b M) (W.n+W.c) NoY
 ap:(qeq b M).Pairwise (λx y=>∀k,x=some k->y≠some k)
variable {k:Nat} {G:Nat->Prop} {F:Nat->Option Obj} {S:qaf} {o:Obj} {F':Nat->Nat->Option Obj} {x:GrR}
section
variable {w w':World} {b:Nat} {M:RoM} {W:WoS} {Gs:Nat->Nat->Prop}
theorem RWo.site (h:RWo w b M W Gs) (hi:i<W.n):RS w (M.bp i) (Gs i) (M.F i) (W.S i):=by
 have:=h.fam.is i (by omega);unfold qfv at this;rw[if_pos hi]at this;exact this
theorem RWo.sess (h:RWo w b M W Gs) (a:k<W.c):RSe w (M.bs k) (Gs (W.n+k)) (W.ses k):=by
 have:=h.fam.is (W.n+k) (by omega);unfold qfv at this;rw[if_neg (by omega),show W.n+k-W.n=k by omega]at this;exact this
theorem RS.frozen (h:RS w b G F S) (e:F k=some o):w.heap[k]?=some o:=by
 obtain⟨_,_,_,_,_,_,_,_,_,a⟩:=h;exact(a k o e).1
theorem RS.frozenG (h:RS w b G F S) (e:F k=some o):G k:=by
 obtain⟨_,_,_,log,_,_,_,_,a,c⟩:=h;obtain⟨_,m,d,f⟩:=c k o e;exact(a k).2 (.inr ⟨m,List.mem_append.2 (.inl d),f⟩)
theorem GrR.Ok.to {F:Nat->Nat->Option Obj} (h:x.Ok w n F) (c:∀i k o,i<n->F i k=some o->F' i k=some o/\w.heap[k]?=some o/\w'.heap[k]?=some o):x.Ok w' n F':=by
 refine⟨h.wi.kept (m:=x.m) (λk e=>?_),λk e=>?_,h.none⟩
 ·obtain⟨i,o,hi,a⟩:=h.fr k e;have:=c i k o hi a;rw[this.2.1,this.2.2]
 ·obtain⟨i,o,hi,a⟩:=h.fr k e;exact⟨i,o,hi,(c i k o hi a).1⟩
theorem RWo.keep (h:RWo w b M W Gs) {W':WoS} {l:Nat->Nat->Prop} (a:qba (qak b M) w w') (m:qci w' (W.n+W.c) (qfv {M with F:=F'} W') l (qak b M) (W.n+W.c) NoY) (p:∀i k o,i<W.n->M.F i k=some o->F' i k=some o) (f:W'.n=W.n) (j:W'.c=W.c) (r:W'.wall=W.wall) (s:W'.at_=W.at_) (et:W'.net=W.net) (t:W'.lost=W.lost):RWo w' b {M with F:=F'} W' l:=by
 have d:∀{x:Option Nat},x∈qeq b M->∀k,x=some k->qak b M k:=λg k e=>by rw[e]at g;exact g
 refine⟨?_,?_,?_,?_,?_,qad h.yr (λk e=>a.block k (d (x:=M.yv.ownBlock) (by simp[qeq]) k e)),by rw[et];exact h.nl,λx g=>?_,by rw[f,j];exact m,h.ap⟩
 ·rw[t];exact h.box.keeps a (d (x:=some b) (by simp[qeq]) b rfl)
 ·rw[f];exact qad h.sr (λk e=>a.block k (d (x:=M.sv.ownBlock) (by simp[qeq]) k e))
 ·rw[f,r];exact qad h.wr (λk e=>a.block k (d (x:=M.wv.ownBlock) (by simp[qeq]) k e))
 ·rw[j];exact qad h.cr (λk e=>a.block k (d (x:=M.cv.ownBlock) (by simp[qeq]) k e))
 ·rw[j,s];exact qad h.ar (λk e=>a.block k (d (x:=M.av.ownBlock) (by simp[qeq]) k e))
 ·rw[f];refine(h.gr x g).to (λi k o hi e=>⟨p i k o hi e,(h.site hi).frozen e,?_⟩);have q:=m.is i (by omega);unfold qfv at q;rw[if_pos (by rw[f];exact hi)]at q;exact RS.frozen q (p i k o hi e)
end
def qmp (b:Nat) (M:RoM) (N:Nat) (Gs:Nat->Nat->Prop) (k:Nat):Prop:=qak b M k\/∃i,i<N/\Gs i k
def RW (w:World) (b:Nat) (G:Nat->Prop) (W:WoS):Prop:=∃M Gs,RWo w b M W Gs/\∀k,G k↔qmp b M (W.n+W.c) Gs k
section
variable {w w':World} {b:Nat} {G:Nat->Prop} {M:RoM} {W:WoS} {Gs:Nat->Nat->Prop}
theorem RWo.ltF (h:RWo w b M W Gs):∀k,qak b M k->k<w.heap.size:=λk a=>(h.fam.free k a).1
theorem RWo.ltG (h:RWo w b M W Gs) (hi:i<W.n+W.c) (a:Gs i k):k<w.heap.size:=(qfv M W i).lt _ _ (h.fam.is i hi) k a
theorem RW.lt (h:RW w b G W):∀k,G k->k<w.heap.size:=by
 obtain⟨M,Gs,h,a⟩:=h;intro k c;rcases(a k).1 c with q|⟨i,hi,q⟩
 ·exact h.ltF k q
 ·exact h.ltG hi q
theorem RW.kept (h:RW w b G W) (f:∀k,G k->w'.heap[k]?=w.heap[k]?) (hs:w.heap.size<=w'.heap.size):RW w' b G W:=by
 obtain⟨M,Gs,h,c⟩:=h;have g:∀k,qak b M k->w'.heap[k]?=w.heap[k]?:=λk q=>f k ((c k).2 (.inl q))
 have a:∀{x:Option Nat},x∈qeq b M->∀k,x=some k->w'.heap[k]?=w.heap[k]?:=λd k e=>by rw[e]at d;exact g k d
 refine⟨M,Gs,⟨h.box.kept (g b (by simp[qak,qeq])) hs,qad h.sr (a (by simp[qeq])),qad h.wr (a (by simp[qeq])),qad h.cr (a (by simp[qeq])),qad h.ar (a (by simp[qeq])),qad h.yr (a (by simp[qeq])),h.nl,λx d=>(h.gr x d).to (λi k o hi e=>?_),h.fam.to (λj k l e=>f k ((c k).2 (.inr ⟨j,l,e⟩))) hs (λk e=>⟨.inl e,Nat.lt_of_lt_of_le (h.ltF k e) hs⟩),h.ap⟩,c⟩;have:=(h.site hi).frozen e;exact⟨e,this,(f k ((c k).2 (.inr ⟨i,by omega,(h.site hi).frozenG e⟩))).trans this⟩
theorem RW.later (h:RW w b G W) (hb:Below w.heap.size w w'):RW w' b G W:=h.kept (λk a=>hb.block k (h.lt k a)) hb.size
end
def roP (b:Nat) (W:WoS):qnm:=⟨λw G=>RW w b G W,λ_ _ h=>h.lt,λ_ _ _ h=>h.kept⟩
def qfc (w:World) (b:Nat) (G:Nat->Prop) (W':WoS) (w':World):Prop:=qg0 (roP b W') w G w'
section
variable {w w':World} {b:Nat} {G:Nat->Prop} {M:RoM} {W:WoS} {Gs:Nat->Nat->Prop}
theorem qfc.same (h:RW w b G W) (hb:Below w.heap.size w w'):qfc w b G W w':=⟨G,h.later hb,λ_ a=>.inl a,qae.ofBelow hb⟩
theorem RWo.stepS (h:RWo w b M W Gs) (d:∀k,G k↔qmp b M (W.n+W.c) Gs k) (hi:i<W.n) {S':qaf} (t:RPo w (M.bp i) (Gs i) (M.F i) S' w'):qfc w b G (setSite W i S') w':=by
 obtain⟨m,f,g,kp,a⟩:=h.fam.stepG (ps':=qfv M (setSite W i S')) (i:=i) (by omega) (p:=qip (M.bp i) (M.F i) S') t (by show (if i<W.n then _ else _)=_;rw[if_pos hi];show qip (M.bp i) (M.F i) (qcg W.S i S' i)=_;rw[qam]) (λj s u=>by
  show (if j<W.n then qip (M.bp j) (M.F j) (qcg W.S i S' j)else _)=(if j<W.n then _ else _);rw[qby _ _ u]
  rfl)
 refine⟨qmp b M (W.n+W.c) m,⟨M,m,h.keep (F':=M.F) kp f (λ_ _ _ _ e=>e) rfl rfl rfl rfl rfl rfl,λ_=>Iff.rfl⟩,λk l=>?_,⟨a.os,a.tape,a.output,a.size,λk l v=>a.block k l (λe=>v ((d k).2 (.inr ⟨i,by omega,e⟩)))⟩⟩;rcases l with q|⟨j,s,q⟩
 ·exact .inl ((d k).2 (.inl q))
 ·rcases g j k q with r|r
  ·exact .inl ((d k).2 (.inr ⟨j,s,r⟩))
  ·exact .inr r
theorem RWo.stepC (h:RWo w b M W Gs) (l:∀k,G k↔qmp b M (W.n+W.c) Gs k) (hi:i<W.c) {a:qbn} (u:qg0 (qu3 (M.bs i) a) w (Gs (W.n+i)) w'):qfc w b G (qb1 W i a) w':=by
 obtain⟨s,f,g,kp,d⟩:=h.fam.stepG (ps':=qfv M (qb1 W i a)) (i:=W.n+i) (by omega) (p:=qu3 (M.bs i) a) u (by show (if W.n+i<W.n then _ else _)=_;rw[if_neg (by omega)];show qu3 (M.bs (W.n+i-W.n)) (qcg W.ses i a (W.n+i-W.n))=_;rw[show W.n+i-W.n=i by omega,qam]) (λj t y=>by
  show (if j<W.n then _ else qu3 (M.bs (j-W.n)) (qcg W.ses i a (j-W.n)))=(if j<W.n then _ else _);by_cases q:j<W.n
  ·rw[if_pos q,if_pos q];rfl
  ·rw[if_neg q,if_neg q,qby _ _ (by omega)])
 refine⟨qmp b M (W.n+W.c) s,⟨M,s,h.keep (F':=M.F) kp f (λ_ _ _ _ e=>e) rfl rfl rfl rfl rfl rfl,λ_=>Iff.rfl⟩,λk m=>?_,⟨d.os,d.tape,d.output,d.size,λk m v=>d.block k m (λe=>v ((l k).2 (.inr ⟨W.n+i,by omega,e⟩)))⟩⟩;rcases m with q|⟨j,t,q⟩
 ·exact .inl ((l k).2 (.inl q))
 ·rcases g j k q with r|r
  ·exact .inl ((l k).2 (.inr ⟨j,t,r⟩))
  ·exact .inr r
end
end
theorem qrc (x:GrR):∀u∈qd9 x,u.oneCell'=true:=by
 intro u a;rcases List.mem_cons.1 a with rfl|a
 ·rfl
 ·rcases List.mem_append.1 a with q|q
  ·exact qk5 _ u q
  ·simp at q
   rcases q with rfl|rfl|rfl|rfl|rfl<;>rfl
theorem qun:(Tryz.prog.info? 108).map (λi=>(i.zero,i.size,i.bytes))=some (some (.agg #[.int .i64 0,.int .i64 0,.int .i64 0,.int .i64 0,.int .i64 0,.int .i64 0,.int .i64 0,.int .i64 0,.int .i64 0,.slice none 0 0,.int .i64 0,.int .i64 0,.int .i64 0,.int .i64 0,.int .i64 0]),15,136):=by kernel_rfl
section
variable {w w':World} {b:Nat} {G:Nat->Prop} {M:RoM} {W:WoS} {Gs:Nat->Nat->Prop}
theorem RWo.apY (h:RWo w b M W Gs):M.yv.ownBlock≠some b:=(List.pairwise_cons.1 h.ap).1 M.yv.ownBlock (by simp) b rfl
theorem RWo.mid (h:RWo w b M W Gs) {x:Option Nat} (a:x∈[M.sv.ownBlock,M.wv.ownBlock,M.cv.ownBlock,M.av.ownBlock]) {k:Nat} (e:x=some k):k<w.heap.size/\k≠b/\M.yv.ownBlock≠some k:=by
 have c:=(List.pairwise_cons.1 h.ap).1 x (List.mem_append_left [M.yv.ownBlock] a);have d:=(List.pairwise_append (l₁:=[M.sv.ownBlock,M.wv.ownBlock,M.cv.ownBlock,M.av.ownBlock]) (l₂:=[M.yv.ownBlock])).1 (List.pairwise_cons.1 h.ap).2;exact⟨h.ltF k (by show some k∈some b::([M.sv.ownBlock,M.wv.ownBlock,M.cv.ownBlock,M.av.ownBlock]++[M.yv.ownBlock]);rw[<-e];exact List.mem_cons_of_mem _ (List.mem_append_left _ a)),λq=>c b rfl (by rw[e,q]),d.2.2 x a _ (by simp) k e⟩
theorem RWo.reway (h:RWo w b M W Gs) {a:Value} {d:List GrR} {s:List GrS} {u:Int} (f:∀k,k<w.heap.size->k≠b->M.yv.ownBlock≠some k->w'.heap[k]?=w.heap[k]?) (hs:w.heap.size<=w'.heap.size)
 (D:qag w' b [M.sv,M.wv,M.cv,M.av,a,.int .i64 u]) (v:w'.ownsRow 0 108 15 a d.length (qiw d)) (z:∀k,a.ownBlock=some k->M.yv.ownBlock=some k\/w.heap.size<=k) (E:d.map (·.g)=s) (m:∀x∈d,x∈M.l\/x.Ok w W.n M.F):
 RWo w' b {M with yv:=a,l:=d} {W with net:=s,lost:=u} Gs:=by
 have J:=h.box.lt;have A:∀j k,j<W.n+W.c->Gs j k->w'.heap[k]?=w.heap[k]?:=λj k p e=>f k (h.ltG p e) (λq=>(h.fam.free k (by rw[q];simp[qak,qeq])).2 j p e) (λq=>(h.fam.free k (by unfold qak qeq;rw[q];simp)).2 j p e);refine⟨D,qad h.sr (λk e=>?_),qad h.wr (λk e=>?_),qad h.cr (λk e=>?_),qad h.ar (λk e=>?_),v,E,λx H=>?_,?_,?_⟩
 ·have:=h.mid (by simp) e;exact f k this.1 this.2.1 this.2.2
 ·have:=h.mid (x:=M.wv.ownBlock) (by simp) e;exact f k this.1 this.2.1 this.2.2
 ·have:=h.mid (x:=M.cv.ownBlock) (by simp) e;exact f k this.1 this.2.1 this.2.2
 ·have:=h.mid (x:=M.av.ownBlock) (by simp) e;exact f k this.1 this.2.1 this.2.2
 ·have ok:x.Ok w W.n M.F:=(m x H).elim (h.gr x) id;exact ok.to (λi k o hi e=>⟨e,(h.site hi).frozen e,(A i k (by omega) ((h.site hi).frozenG e)).trans ((h.site hi).frozen e)⟩)
 ·refine h.fam.to (X':=qak b {M with yv:=a,l:=d}) A hs (λk e=>?_);have e:some k∈[some b,M.sv.ownBlock,M.wv.ownBlock,M.cv.ownBlock,M.av.ownBlock]++[a.ownBlock]:=e;rcases List.mem_append.1 e with q|q
  ·have:qak b M k:=List.mem_append_left [M.yv.ownBlock] q;exact⟨.inl this,Nat.lt_of_lt_of_le (h.ltF k this) hs⟩
  ·have q:=(List.mem_singleton.1 q).symm;refine⟨?_,(v.lt k q).2⟩;rcases z k q with r|r
   ·exact .inl (by unfold qak qeq;rw[r];simp)
   ·exact .inr r
 ·have B:=(List.pairwise_append (l₁:=[some b,M.sv.ownBlock,M.wv.ownBlock,M.cv.ownBlock,M.av.ownBlock]) (l₂:=[M.yv.ownBlock])).1 h.ap;refine(List.pairwise_append (l₁:=[some b,M.sv.ownBlock,M.wv.ownBlock,M.cv.ownBlock,M.av.ownBlock]) (l₂:=[a.ownBlock])).2 ⟨B.1,List.pairwise_singleton _ _,λx m y I k e C=>?_⟩;rw[List.mem_singleton.1 I]at C;rcases z k C with r|r
  ·exact B.2.2 x m _ (List.mem_singleton.2 rfl) k e r
  ·have:qak b M k:=by rw[e]at m;exact List.mem_append_left [M.yv.ownBlock] m
   have:=h.ltF k this;omega
theorem RWo.later (h:RWo w b M W Gs) (hb:Below w.heap.size w w'):RWo w' b M W Gs:=
 h.reway (λk a _ _=>hb.block k a) hb.size (h.box.later hb) (qad h.yr (λk e=>hb.block k (h.yr.lt k e).2)) (λ_ e=>.inl e) h.nl (λ_ c=>.inl c)
theorem RWo.lostBox (h:RWo w b M W Gs) (hb:Below w.heap.size w w') (x:Int):RWo (w'.setCell ⟨b,5,none⟩ (.int .i64 x)) b M {W with lost:=x} Gs:=by
 have c:∀k,k<w.heap.size->k≠b->(w'.setCell ⟨b,5,none⟩ (.int .i64 x)).heap[k]?=w.heap[k]?:=λk a d=>(Below.heap_setCell _ _ _ _ (λe=>d e)).trans (hb.block k a);exact h.reway (λk a f _=>c k a f) (by have:=hb.size;simpa[World.setCell]using this) ((h.box.later hb).set 5 _ (by simp)) (qad h.yr (λk e=>c k (h.yr.lt k e).2 (λq=>h.apY (by rw[e,q])))) (λ_ e=>.inl e) h.nl (λ_ g=>.inl g)
def qgh (w:World) (b:Nat) (M:RoM) (Gs:Nat->Nat->Prop) (W':WoS) (w':World):Prop:=
 ∃yv' l',RWo w' b {M with yv:=yv',l:=l'} W' Gs/\(∀k,yv'.ownBlock=some k->M.yv.ownBlock=some k\/w.heap.size<=k)/\qae (λk=>k=b\/M.yv.ownBlock=some k) w w'
theorem qgh.none (h:RWo w b M W Gs) (hb:Below w.heap.size w w'):qgh w b M Gs W w':=⟨M.yv,M.l,h.later hb,λ_ e=>.inl e,qae.ofBelow hb⟩
theorem qgh.post {W':WoS} (h:qgh w b M Gs W' w') (d:∀k,G k↔qmp b M (W.n+W.c) Gs k) (j:W'.n=W.n) (l:W'.c=W.c):qfc w b G W' w':=by
 obtain⟨m,t,o,p,a⟩:=h
 have fb:qak b M b:=by simp[qak,qeq]
 have g:∀k,M.yv.ownBlock=some k->qak b M k:=λk e=>by unfold qak qeq;rw[e];simp
 refine⟨_,⟨_,Gs,o,λ_=>Iff.rfl⟩,λk f=>?_,⟨a.os,a.tape,a.output,a.size,λk f s=>a.block k f (λe=>s ((d k).2 (.inl (e.elim (λq=>by rw[q];exact fb) (g k)))))⟩⟩;rw[j,l]at f;rcases f with e|⟨i,hi,e⟩
 ·have e:some k∈[some b,M.sv.ownBlock,M.wv.ownBlock,M.cv.ownBlock,M.av.ownBlock]++[m.ownBlock]:=e;rcases List.mem_append.1 e with q|q
  ·exact .inl ((d k).2 (.inl (List.mem_append_left [M.yv.ownBlock] q)))
  ·rcases p k (List.mem_singleton.1 q).symm with r|r
   ·exact .inl ((d k).2 (.inl (g k r)))
   ·exact .inr r
 ·exact .inl ((d k).2 (.inr ⟨i,hi,e⟩))
end
end Go.Proofs.YtoanjdndmlffdaaGreatDoor
