import Derived.Test.YtoanjdndmlffdaaGreatDoorSiteE
set_option maxHeartbeats 8000000
set_option maxRecDepth 100000
namespace Go.Proofs.YtoanjdndmlffdaaGreatDoor
open Go.RowKit
theorem qj2:(Tryz.prog.info? 185).map (λi=>(i.zero,i.size,i.bytes))=some (some (.agg #[U 0,U 0,U 0,U 0,U 0,.string ⟨#[]⟩,.bool false]),7,64):=by kernel_rfl
section
structure qfs (w:World) (sb so:Nat) (v:Value) (l:List Hd):Prop where
 box:qel w sb so v
 own:w.ownsRow 0 185 7 v l.length (qjb l)
 apart:v.ownBlock≠some sb
 ok:∀h∈l,qau h.v=true
def qdg (w:World) (sb so:Nat) (v:Value) (l':List Hd) (w':World):Prop:=
 ∃v',qfs w' sb so v' l'/\(∀k,v'.ownBlock=some k->v.ownBlock=some k\/w.heap.size<=k)/\qc (q0q sb v) w w'/\qc6 sb so w w'
variable {w w':World} {sb so:Nat} {v:Value} {l:List Hd}
theorem qfs.later (h:qfs w sb so v l) (a:Bw w w'):qfs w' sb so v l:=⟨h.box.later a,qe1 h.own a,h.apart,h.ok⟩
theorem qdg.same (h:qfs w sb so v l) (a:Bw w w'):qdg w sb so v l w':=
 ⟨v,h.later a,λ_ b=>.inl b,qc.ofBelow a,qc6.ofBlock (a.block sb h.box.lt)⟩
variable {sv:Value}
theorem qzj {key:Int} (h:inB key 0 7=false) (v:Ver) (w:World) (a:qfs w sb so sv l):
 Ca 181 #[.pointer (some (AD sb so)),U key,.agg #[U v.wall,U v.count,U v.site,U v.seq,.string v.data,.bool v.gone]] w λe w'=>e=.returned (U (qb5 l key v))/\qdg w sb so sv (qa4 l key v) w':=by
 have e:qb5 l key v=2:=by unfold qb5;rw[h];rfl
 have b:qa4 l key v=l:=by unfold qa4;rw[e];rfl
 rw[e,b];have H:=hd1 h;go_enter Tryz.func181,Tryz.ntmps181
 go_wp2_with fail
 refine(vj H.out _).mono ?_;rintro e d ⟨rfl,c⟩
 go_wp2_with fail
 go_ret;exact⟨rfl,qdg.same a (qa (boxed (jcc _ _) _) c)⟩
theorem q5t {key:Int} (h:inB key 0 7=true) (v:Ver) (b:qau v=false) (w:World) (c:qfs w sb so sv l):
 Ca 181 #[.pointer (some (AD sb so)),U key,.agg #[U v.wall,U v.count,U v.site,U v.seq,.string v.data,.bool v.gone]] w λe w'=>e=.returned (U (qb5 l key v))/\qdg w sb so sv (qa4 l key v) w':=by
 have e:qb5 l key v=1:=by unfold qb5;rw[h,b];rfl
 have u:qa4 l key v=l:=by unfold qa4;rw[e];rfl
 rw[e,u];have H:=hd1 h;obtain⟨j,k,m,n,d,o⟩:=v;have R:=qd.new (w:=w) (T:=130) [U j,U k,U m,U n,.string d,.bool o] rfl;have a:=boxed (jcc _ w) (.cells #[U j,U k,U m,U n,.string d,.bool o] 130);go_enter Tryz.func181,Tryz.ntmps181
 go_wp2_with fail
 refine(vj H.out _).mono ?_;rintro e z ⟨rfl,s⟩;replace R:=R.later s;replace a:=qa a s;have B:=R.cell 0 _ rfl;have C:=R.cell 1 _ rfl;cases p1:(qi j&&qi k)
 ·have p:=hd1 p1
  go_wp2_with fail
  refine(qg5 p.out _).mono ?_;rintro e w2 ⟨rfl,f⟩;replace a:=qa a f
  go_wp2_with fail
  go_ret;exact⟨rfl,qdg.same c a⟩
 have p:=hd1 p1
 go_wp2_with fail
 refine(qg5 p.out _).mono ?_;rintro e w2 ⟨rfl,f⟩;replace R:=R.later f;replace a:=qa a f;have D:=R.cell 2 _ rfl;cases p2:inB m 0 3
 ·have q:=hd1 p2
  go_wp2_with fail
  refine(vj q.out _).mono ?_;rintro e x ⟨rfl,g⟩;replace a:=qa a g
  go_wp2_with fail
  go_ret;exact⟨rfl,qdg.same c a⟩
 have q:=hd1 p2
 go_wp2_with fail
 refine(vj q.out _).mono ?_;rintro e x ⟨rfl,g⟩;replace R:=R.later g;replace a:=qa a g;have E:=R.cell 3 _ rfl;cases p3:inB n 1 1099511627776
 ·have r:=hd1 p3
  go_wp2_with fail
  refine(vj r.out _).mono ?_;rintro e y ⟨rfl,i⟩;replace a:=qa a i
  go_wp2_with fail
  go_ret;exact⟨rfl,qdg.same c a⟩
 have r:=hd1 p3
 go_wp2_with fail
 refine(vj r.out _).mono ?_;rintro e y ⟨rfl,i⟩;replace R:=R.later i;replace a:=qa a i;have F:=R.cell 4 _ rfl;have G:=R.cell 5 _ rfl;by_cases I:12<(d.size:Int)
 ·clear p1 p2 p3
  go_wp2_with fail
  go_ret;exact⟨rfl,qdg.same c a⟩
 have t:decide ((d.size:Int)<=12)=true:=decide_eq_true (by omega);cases o
 ·simp only[qau,p1,p2,p3,t,Bool.and_self,Bool.false_and,Bool.not_false]at b;cases b
 cases he:d.toList.isEmpty
 ·clear p1 p2 p3
  go_wp2_with fail
  go_ret;exact⟨rfl,qdg.same c a⟩
 simp only[qau,p1,p2,p3,t,he,Bool.and_self,Bool.not_true,Bool.and_false,Bool.not_false]at b;cases b
end
section
variable {sb so:Nat} {sv:Value} {l:List Hd}
theorem q7v {key:Int} (h:inB key 0 7=true) (v:Ver) (hv:qau v=true) (w:World) (D:qfs w sb so sv l) (hl:l.length<=1000):
 Ca 181 #[.pointer (some (AD sb so)),U key,.agg #[U v.wall,U v.count,U v.site,U v.seq,.string v.data,.bool v.gone]] w λe w'=>e=.returned (U (qb5 l key v))/\qdg w sb so sv (qa4 l key v) w':=by
 have he:=qvp;have H:=hd1 h;have HV:=hd1 hv;clear h;obtain⟨c,d,f,n,m,gn⟩:=v;have hp:=hv;simp only[qau,jct]at hp;obtain⟨⟨⟨⟨p1,p2⟩,p3⟩,p4⟩,p5⟩:=hp
 have P1:Hid ((qi c&&qi d)=true):=by show (qi c&&qi d)=true;rw[p1.1,p1.2];rfl
 have P2:=hd1 p2;have P3:=hd1 p3
 have hdt:¬12<(m.size:Int):=by have:=of_decide_eq_true p4;omega
 have P5:=hd1 p5;clear p1 p2 p3 p4 p5 hv;have R:=qd.new (w:=w) (T:=130) [U c,U d,U f,U n,.string m,.bool gn] rfl;have o:=boxed (jcc _ w) (.cells #[U c,U d,U f,U n,.string m,.bool gn] 130);go_enter Tryz.func181,Tryz.ntmps181
 go_wp2_with fail
 refine(vj H.out _).mono ?_;rintro e w1 ⟨rfl,hb1⟩;replace R:=R.later hb1;replace o:=qa o hb1;have c0:=R.cell 0 _ rfl;have c1:=R.cell 1 _ rfl
 go_wp2_with fail
 refine(qg5 P1.out _).mono ?_;rintro e w2 ⟨rfl,hb2⟩;replace R:=R.later hb2;replace o:=qa o hb2;clear hb1 hb2 c0 c1;have c2:=R.cell 2 _ rfl
 go_wp2_with fail
 refine(vj P2.out _).mono ?_;rintro e w3 ⟨rfl,hb3⟩;replace R:=R.later hb3;replace o:=qa o hb3;clear hb3 c2;have c3:=R.cell 3 _ rfl
 go_wp2_with fail
 refine(vj P3.out _).mono ?_;rintro e w4 ⟨rfl,hb4⟩;replace R:=R.later hb4;replace o:=qa o hb4;clear hb4 c3;have c4:=R.cell 4 _ rfl;have c5:=R.cell 5 _ rfl;cases gn
 ·skip;obtain⟨a,cap,rfl,hH⟩:=qhq D.own;have M:=hH.later o;have box4:=D.box.later o;have s0:=box4.cell
  go_wp2_with fail
  clear s0 box4
  go_loopw [48] (λiv wr=>∃(k:Nat) (z:Int),k<=l.length/\z=k/\iv=U z/\(∀j,j<k->qb2 key ⟨c,d,f,n,m,false⟩ (qbd l j)=false)/\qd wr w.heap.size [U c,U d,U f,U n,.string m,.bool false]/\Bw w wr) (λi _=>l.length-(intOf i).toNat)
  case atStart=>exact⟨0,0,by omega,rfl,rfl,λj S=>by omega,R,o⟩
  clear R o M;obtain⟨k,z,N,V,rfl,hnt,R,o⟩:=hrel;have O:=hd1 hnt;clear hnt;have W:=hd1 V;have M:=hH.later o;by_cases q:k<l.length
  ·have h1:z<(l.length:Int):=by omega
   have h2:z.toNat=k:=by omega
   have h3:0<=z:=by omega
   clear V
   obtain⟨b,s,rfl,t⟩:∃b s,a=some (AD b s)/\∀i r u,i<l.length->(hdL (qbd l i))[r]?=some u->wr.cell? (AD b (s+(i*7+r)))=some u:=by
        rcases M.held with X|X
        ·rw[X]at q;simp at q
        exact X
   obtain⟨⟨E,⟨F,G,I,Y,Z,hg⟩⟩,p⟩:∃x,qbd l k=x:=⟨_,rfl⟩;have x0:wr.cell? (AD b (s+k*7))=some (U E):=t k 0 _ q (by rw[p];rfl);have x1:wr.cell? (AD b (s+k*7+1))=some (U F):=t k 1 _ q (by rw[p];rfl);have x2:wr.cell? (AD b (s+k*7+2))=some (U G):=t k 2 _ q (by rw[p];rfl);have x3:wr.cell? (AD b (s+k*7+3))=some (U I):=t k 3 _ q (by rw[p];rfl);have x4:wr.cell? (AD b (s+k*7+4))=some (U Y):=t k 4 _ q (by rw[p];rfl);have x5:wr.cell? (AD b (s+k*7+5))=some (.string Z):=t k 5 _ q (by rw[p];rfl);have x6:wr.cell? (AD b (s+k*7+6))=some (.bool hg):=t k 6 _ q (by rw[p];rfl);have HX:=hd1 p;clear p t M
   have P:Hid (qb2 key ⟨c,d,f,n,m,false⟩ (qbd l k)=((E==key)&&qhi F G c d&&(I==f))):=by
        show qb2 key ⟨c,d,f,n,m,false⟩ (qbd l k)=_;rw[HX.out];simp only[qb2,qhi];rw[Bool.eq_iff_iff];simp
   have B:=R.boxed (.cells #[U E,U F,U G,U I,U Y,.string Z,.bool hg] 185);have Q:=boxed o (.cells #[U E,U F,U G,U I,U Y,.string Z,.bool hg] 185);have c0:=B.cell 0 _ rfl;have c1:=B.cell 1 _ rfl;have c2:=B.cell 2 _ rfl;cases e1:(E==key)
   ·have J:Hid (∀j,j<k+1->qb2 key ⟨c,d,f,n,m,false⟩ (qbd l j)=false):=λj S=>by
     rcases jc7 j k with g|g
     ·exact O.out j g
     obtain rfl:j=k:=by omega
     rw[P.out,e1];rfl
    go_wp2_with fail
    go_roundw
    case rel=>exact⟨k+1,z+1,by omega,by have:=W.out;omega,by go_num,J.out,B,Q⟩
    simp[intOf];omega
   cases e2:qhi F G c d
   ·have J:Hid (∀j,j<k+1->qb2 key ⟨c,d,f,n,m,false⟩ (qbd l j)=false):=λj S=>by
     rcases jc7 j k with g|g
     ·exact O.out j g
     obtain rfl:j=k:=by omega
     rw[P.out,e1,e2];rfl
    go_wp2_with fail
    go_roundw
    case rel=>exact⟨k+1,z+1,by omega,by have:=W.out;omega,by go_num,J.out,B,Q⟩
    simp[intOf];omega
   cases e3:(I==f)
   ·have J:Hid (∀j,j<k+1->qb2 key ⟨c,d,f,n,m,false⟩ (qbd l j)=false):=λj S=>by
     rcases jc7 j k with g|g
     ·exact O.out j g
     obtain rfl:j=k:=by omega
     rw[P.out,e1,e2,e3];rfl
    go_wp2_with fail
    go_roundw
    case rel=>exact⟨k+1,z+1,by omega,by have:=W.out;omega,by go_num,J.out,B,Q⟩
    simp[intOf];omega
   have K:Hid (qb5 l key ⟨c,d,f,n,m,false⟩=9):=by
        have tt:qb2 key ⟨c,d,f,n,m,false⟩ (qbd l k)=true:=by rw[P.out,e1,e2,e3];rfl
        have ta:=List.any_eq_true.2 ⟨qbd l k,by simp only[qbd,List.getD,jcg q,Option.getD_some];exact jdr q,tt⟩;show qb5 l key ⟨c,d,f,n,m,false⟩=9;unfold qb5;rw[H.out,HV.out,ta];rfl
   have PL:Hid (qa4 l key ⟨c,d,f,n,m,false⟩=l):=by show qa4 l key ⟨c,d,f,n,m,false⟩=l;unfold qa4;rw[K.out];rfl
   go_wp2_with fail
   go_ret;exact⟨by rw[K.out];rfl,by rw[PL.out];exact qdg.same D Q⟩
  have h4:¬z<(l.length:Int):=by omega
  have K:Hid (qb5 l key ⟨c,d,f,n,m,false⟩=0):=by
   have ta:l.any (qb2 key ⟨c,d,f,n,m,false⟩)=false:=by
        rw[List.any_eq_false];intro x p;obtain⟨i,hi,rfl⟩:=jdm.1 p;have e:=O.out i (by omega);simp only[qbd,List.getD,jcg hi,Option.getD_some]at e;simp[e]
   show qb5 l key ⟨c,d,f,n,m,false⟩=0;unfold qb5;rw[H.out,HV.out,ta];rfl
  have PL:Hid (qa4 l key ⟨c,d,f,n,m,false⟩=l++[⟨key,⟨c,d,f,n,m,false⟩⟩]):=by show qa4 l key ⟨c,d,f,n,m,false⟩=_;unfold qa4;rw[K.out];rfl
  clear V;have y:=D.later o;have s0:=y.box.cell;have s1:=y.box.free;have hsb:=y.box.lt;obtain⟨c0,c1,c2,c3,c4,c5⟩:=R.c6;have ownd:wr.drew.ownsRow 0 185 7 (.slice a l.length cap) l.length (qjb l):=y.own;obtain⟨i0,hi,hz0,hz1,hz2⟩:=info_parts qj2
  go_wp2_with fail
  go_region_law (refine step_append_lies _ rfl (.tmp 77) (.tmp 81) 81 rfl 0 185 i0 (.agg #[U 0,U 0,U 0,U 0,U 0,.string ⟨#[]⟩,.bool false]) 7 64 Tryz.underlying81 hi hz0 hz1 hz2 rfl (by decide) (.slice a l.length cap) l.length (qjb l) (by simp[Act.eval]) (ownd.alloc _) (AD wr.heap.size 0) 1 1 (hdL ⟨key,⟨c,d,f,n,m,false⟩⟩) (by simp[Act.eval]) rfl (World.news_of_block (heap_alloc_new wr.drew (.cells #[U key,U c,U d,U f,U n,.string m,.bool false] 185))) (by intro u hu;simp[hdL]at hu;rcases hu with rfl|rfl|rfl|rfl|rfl|rfl|rfl<;>rfl) (by decide) (by simp only[maxLen];omega) (by omega) (by simp) _ rfl ?_
                 intro g L C ownE grE egE ltE;have BE:=((y.box.drew).boxed (.cells #[U key,U c,U d,U f,U n,.string m,.bool false] 185)).grown grE (λe=>y.apart e.symm);have s0E:=BE.cell
                 have s1E:=BE.free)
  all_goals
   have BZ:=BE.set (.slice (PT g) (l.length+1) L)
   have gne:g≠sb:=by
        rcases egE with e|e
        ·intro h;rw[h]at e;exact y.apart e
        simp at e;omega
   have gnew:(Value.slice a l.length cap).ownBlock=some g\/w.heap.size<=g:=by
        rcases egE with e|e
        ·exact .inl e
        right
        have:=o.size;simp at e;omega
   have ownZ:=ownE.kept (row:=some sb) (qhs sb so C (.slice (PT g) (l.length+1) L)) (.inr (λe=>gne (by simpa[Value.ownBlock]using e)))
   have TZ:qc (q0q sb (.slice a l.length cap)) w (C.setCell (AD sb so) (.slice (PT g) (l.length+1) L)):=
        (((qc.ofBelow o).trans (qc.ofBelow (boxed ((jcc _ wr).drew) (.cells #[U key,U c,U d,U f,U n,.string m,.bool false] 185)))).trans (qc.grown grE (λk N=>.inr N))).trans (qc.setCell C (AD sb so) _ (.inl rfl))
   have RZ:qc6 sb so w (C.setCell (AD sb so) (.slice (PT g) (l.length+1) L)):=
        (((qc6.ofBlock (o.block sb D.box.lt)).trans (qc6.ofBlock (w:=wr) (jdg wr.drew _ sb hsb))).trans (qc6.ofBlock (grE.block sb (by simp;omega) (λe=>y.apart e.symm)))).trans (qc6.set sb so C _)
   have FIN:Hid (qdg w sb so (.slice a l.length cap) (l++[⟨key,⟨c,d,f,n,m,false⟩⟩]) (C.setCell (AD sb so) (.slice (PT g) (l.length+1) L))):=
        ⟨_,⟨BZ,by rw[qh8,jcl];exact ownZ,λe=>gne (by simpa[Value.ownBlock]using e),λx p=>by
          rcases jcf.1 p with h|h
          ·exact D.ok x h
          ·obtain rfl:=jcj.1 h
           exact HV.out⟩,λk N=>by
          have e:g=k:=by simpa[Value.ownBlock]using N
          rw[<-e]
          exact gnew,TZ,RZ⟩
   clear BZ ownZ TZ gnew gne
   go_wp2_with fail
   go_ret;exact⟨by rw[K.out];rfl,by rw[PL.out];exact FIN.out⟩
 have em:m.toList.isEmpty=true:=by
  have:=P5.out;cases p:m.toList.isEmpty
  ·rw[p]at this;cases this
  rfl
 obtain⟨a,cap,rfl,hH⟩:=qhq D.own;have M:=hH.later o;have box4:=D.box.later o;have s0:=box4.cell
 go_wp2_with fail
 clear s0 box4
 go_loopw [48] (λiv wr=>∃(k:Nat) (z:Int),k<=l.length/\z=k/\iv=U z/\(∀j,j<k->qb2 key ⟨c,d,f,n,m,true⟩ (qbd l j)=false)/\qd wr w.heap.size [U c,U d,U f,U n,.string m,.bool true]/\Bw w wr) (λi _=>l.length-(intOf i).toNat)
 case atStart=>exact⟨0,0,by omega,rfl,rfl,λj S=>by omega,R,o⟩
 clear R o M;obtain⟨k,z,N,V,rfl,hnt,R,o⟩:=hrel;have O:=hd1 hnt;clear hnt;have W:=hd1 V;have M:=hH.later o;by_cases q:k<l.length
 ·have h1:z<(l.length:Int):=by omega
  have h2:z.toNat=k:=by omega
  have h3:0<=z:=by omega
  clear V
  obtain⟨b,s,rfl,t⟩:∃b s,a=some (AD b s)/\∀i r u,i<l.length->(hdL (qbd l i))[r]?=some u->wr.cell? (AD b (s+(i*7+r)))=some u:=by
   rcases M.held with X|X
   ·rw[X]at q;simp at q
   exact X
  obtain⟨⟨E,⟨F,G,I,Y,Z,hg⟩⟩,p⟩:∃x,qbd l k=x:=⟨_,rfl⟩;have x0:wr.cell? (AD b (s+k*7))=some (U E):=t k 0 _ q (by rw[p];rfl);have x1:wr.cell? (AD b (s+k*7+1))=some (U F):=t k 1 _ q (by rw[p];rfl);have x2:wr.cell? (AD b (s+k*7+2))=some (U G):=t k 2 _ q (by rw[p];rfl);have x3:wr.cell? (AD b (s+k*7+3))=some (U I):=t k 3 _ q (by rw[p];rfl);have x4:wr.cell? (AD b (s+k*7+4))=some (U Y):=t k 4 _ q (by rw[p];rfl);have x5:wr.cell? (AD b (s+k*7+5))=some (.string Z):=t k 5 _ q (by rw[p];rfl);have x6:wr.cell? (AD b (s+k*7+6))=some (.bool hg):=t k 6 _ q (by rw[p];rfl);have HX:=hd1 p;clear p t M
  have P:Hid (qb2 key ⟨c,d,f,n,m,true⟩ (qbd l k)=((E==key)&&qhi F G c d&&(I==f))):=by
   show qb2 key ⟨c,d,f,n,m,true⟩ (qbd l k)=_;rw[HX.out];simp only[qb2,qhi];rw[Bool.eq_iff_iff];simp
  have B:=R.boxed (.cells #[U E,U F,U G,U I,U Y,.string Z,.bool hg] 185);have Q:=boxed o (.cells #[U E,U F,U G,U I,U Y,.string Z,.bool hg] 185);have c0:=B.cell 0 _ rfl;have c1:=B.cell 1 _ rfl;have c2:=B.cell 2 _ rfl;cases e1:(E==key)
  ·have J:Hid (∀j,j<k+1->qb2 key ⟨c,d,f,n,m,true⟩ (qbd l j)=false):=λj S=>by
        rcases jc7 j k with g|g
        ·exact O.out j g
        obtain rfl:j=k:=by omega
        rw[P.out,e1];rfl
   go_wp2_with fail
   go_roundw
   case rel=>exact⟨k+1,z+1,by omega,by have:=W.out;omega,by go_num,J.out,B,Q⟩
   simp[intOf];omega
  cases e2:qhi F G c d
  ·have J:Hid (∀j,j<k+1->qb2 key ⟨c,d,f,n,m,true⟩ (qbd l j)=false):=λj S=>by
        rcases jc7 j k with g|g
        ·exact O.out j g
        obtain rfl:j=k:=by omega
        rw[P.out,e1,e2];rfl
   go_wp2_with fail
   go_roundw
   case rel=>exact⟨k+1,z+1,by omega,by have:=W.out;omega,by go_num,J.out,B,Q⟩
   simp[intOf];omega
  cases e3:(I==f)
  ·have J:Hid (∀j,j<k+1->qb2 key ⟨c,d,f,n,m,true⟩ (qbd l j)=false):=λj S=>by
        rcases jc7 j k with g|g
        ·exact O.out j g
        obtain rfl:j=k:=by omega
        rw[P.out,e1,e2,e3];rfl
   go_wp2_with fail
   go_roundw
   case rel=>exact⟨k+1,z+1,by omega,by have:=W.out;omega,by go_num,J.out,B,Q⟩
   simp[intOf];omega
  have K:Hid (qb5 l key ⟨c,d,f,n,m,true⟩=9):=by
   have tt:qb2 key ⟨c,d,f,n,m,true⟩ (qbd l k)=true:=by rw[P.out,e1,e2,e3];rfl
   have ta:=List.any_eq_true.2 ⟨qbd l k,by simp only[qbd,List.getD,jcg q,Option.getD_some];exact jdr q,tt⟩;show qb5 l key ⟨c,d,f,n,m,true⟩=9;unfold qb5;rw[H.out,HV.out,ta];rfl
  have PL:Hid (qa4 l key ⟨c,d,f,n,m,true⟩=l):=by show qa4 l key ⟨c,d,f,n,m,true⟩=l;unfold qa4;rw[K.out];rfl
  go_wp2_with fail
  go_ret;exact⟨by rw[K.out];rfl,by rw[PL.out];exact qdg.same D Q⟩
 have h4:¬z<(l.length:Int):=by omega
 have K:Hid (qb5 l key ⟨c,d,f,n,m,true⟩=0):=by
  have ta:l.any (qb2 key ⟨c,d,f,n,m,true⟩)=false:=by
   rw[List.any_eq_false];intro x p;obtain⟨i,hi,rfl⟩:=jdm.1 p;have e:=O.out i (by omega);simp only[qbd,List.getD,jcg hi,Option.getD_some]at e;simp[e]
  show qb5 l key ⟨c,d,f,n,m,true⟩=0;unfold qb5;rw[H.out,HV.out,ta];rfl
 have PL:Hid (qa4 l key ⟨c,d,f,n,m,true⟩=l++[⟨key,⟨c,d,f,n,m,true⟩⟩]):=by show qa4 l key ⟨c,d,f,n,m,true⟩=_;unfold qa4;rw[K.out];rfl
 clear V;have y:=D.later o;have s0:=y.box.cell;have s1:=y.box.free;have hsb:=y.box.lt;obtain⟨c0,c1,c2,c3,c4,c5⟩:=R.c6;have ownd:wr.drew.ownsRow 0 185 7 (.slice a l.length cap) l.length (qjb l):=y.own;obtain⟨i0,hi,hz0,hz1,hz2⟩:=info_parts qj2
 go_wp2_with fail
 go_region_law (refine step_append_lies _ rfl (.tmp 77) (.tmp 81) 81 rfl 0 185 i0 (.agg #[U 0,U 0,U 0,U 0,U 0,.string ⟨#[]⟩,.bool false]) 7 64 Tryz.underlying81 hi hz0 hz1 hz2 rfl (by decide) (.slice a l.length cap) l.length (qjb l) (by simp[Act.eval]) (ownd.alloc _) (AD wr.heap.size 0) 1 1 (hdL ⟨key,⟨c,d,f,n,m,true⟩⟩) (by simp[Act.eval]) rfl (World.news_of_block (heap_alloc_new wr.drew (.cells #[U key,U c,U d,U f,U n,.string m,.bool true] 185))) (by intro u hu;simp[hdL]at hu;rcases hu with rfl|rfl|rfl|rfl|rfl|rfl|rfl<;>rfl) (by decide) (by simp only[maxLen];omega) (by omega) (by simp) _ rfl ?_
                intro g L C ownE grE egE ltE;have BE:=((y.box.drew).boxed (.cells #[U key,U c,U d,U f,U n,.string m,.bool true] 185)).grown grE (λe=>y.apart e.symm);have s0E:=BE.cell
                have s1E:=BE.free)
 all_goals
  have BZ:=BE.set (.slice (PT g) (l.length+1) L)
  have gne:g≠sb:=by
   rcases egE with e|e
   ·intro h;rw[h]at e;exact y.apart e
   simp at e;omega
  have gnew:(Value.slice a l.length cap).ownBlock=some g\/w.heap.size<=g:=by
   rcases egE with e|e
   ·exact .inl e
   right
   have:=o.size;simp at e;omega
  have ownZ:=ownE.kept (row:=some sb) (qhs sb so C (.slice (PT g) (l.length+1) L)) (.inr (λe=>gne (by simpa[Value.ownBlock]using e)))
  have TZ:qc (q0q sb (.slice a l.length cap)) w (C.setCell (AD sb so) (.slice (PT g) (l.length+1) L)):=
   (((qc.ofBelow o).trans (qc.ofBelow (boxed ((jcc _ wr).drew) (.cells #[U key,U c,U d,U f,U n,.string m,.bool true] 185)))).trans (qc.grown grE (λk N=>.inr N))).trans (qc.setCell C (AD sb so) _ (.inl rfl))
  have RZ:qc6 sb so w (C.setCell (AD sb so) (.slice (PT g) (l.length+1) L)):=
   (((qc6.ofBlock (o.block sb D.box.lt)).trans (qc6.ofBlock (w:=wr) (jdg wr.drew _ sb hsb))).trans (qc6.ofBlock (grE.block sb (by simp;omega) (λe=>y.apart e.symm)))).trans (qc6.set sb so C _)
  have FIN:Hid (qdg w sb so (.slice a l.length cap) (l++[⟨key,⟨c,d,f,n,m,true⟩⟩]) (C.setCell (AD sb so) (.slice (PT g) (l.length+1) L))):=
   ⟨_,⟨BZ,by rw[qh8,jcl];exact ownZ,λe=>gne (by simpa[Value.ownBlock]using e),λx p=>by
     rcases jcf.1 p with h|h
     ·exact D.ok x h
     ·obtain rfl:=jcj.1 h
      exact HV.out⟩,λk N=>by
     have e:g=k:=by simpa[Value.ownBlock]using N
     rw[<-e]
     exact gnew,TZ,RZ⟩
  clear BZ ownZ TZ gnew gne
  go_wp2_with fail
  go_ret;exact⟨by rw[K.out];rfl,by rw[PL.out];exact FIN.out⟩
theorem q7r (key:Int) (v:Ver) (w:World) (a:qfs w sb so sv l) (b:l.length<=1000):
 Ca 181 #[.pointer (some (AD sb so)),U key,.agg #[U v.wall,U v.count,U v.site,U v.seq,.string v.data,.bool v.gone]] w λe w'=>e=.returned (U (qb5 l key v))/\qdg w sb so sv (qa4 l key v) w':=by
 cases h:inB key 0 7
 ·exact qzj h v w a
 cases hv:qau v
 ·exact q5t h v hv w a
 exact q7v h v hv w a b
end
section
structure vu (w:World) (b:Nat) (lv wv sv:Value) (S:qe) (log waits:List TxM):Prop where
 box:qd w b (vz S lv wv sv)
 rlog:w.ownsRow 0 102 9 lv log.length (zw log)
 rwait:w.ownsRow 0 102 9 wv waits.length (zw waits)
 own:w.ownsRow 0 185 7 sv S.l.length (qjb S.l)
 ok:∀h∈S.l,qau h.v=true
 nl:lv.ownBlock≠some b
 nw:wv.ownBlock≠some b
 ns:sv.ownBlock≠some b
 lw:∀k,lv.ownBlock=some k->wv.ownBlock≠some k
 ls:∀k,lv.ownBlock=some k->sv.ownBlock≠some k
 ws:∀k,wv.ownBlock=some k->sv.ownBlock≠some k
 hold:∀m∈log++waits,qr w m.wa m.wc m.t.ws/\∀k,m.blk k->¬qu b lv wv sv k
variable {w:World} {b:Nat} {lv wv sv:Value} {S:qe}
theorem vu.lt {log waits:List TxM} (h:vu w b lv wv sv S log waits):∀k,qu b lv wv sv k->k<w.heap.size:=λk a=>by
 rcases a with rfl|a|a|a
 ·exact h.box.lt
 ·exact(h.rlog.lt k a).2
 ·exact(h.rwait.lt k a).2
 exact(h.own.lt k a).2
variable {w':World}
theorem vu.kept {log waits:List TxM} (h:vu w b lv wv sv S log waits) (a:∀k,k<w.heap.size->w'.heap[k]?=w.heap[k]?) (d:w.heap.size<=w'.heap.size):vu w' b lv wv sv S log waits:=
 ⟨h.box.kept (a b h.box.lt) d,qf h.rlog (λk e=>a k (h.rlog.lt k e).2),qf h.rwait (λk e=>a k (h.rwait.lt k e).2),qf h.own (λk e=>a k (h.own.lt k e).2),h.ok,h.nl,h.nw,h.ns,h.lw,h.ls,h.ws,
   λm c=>⟨(h.hold m c).1.kept (λk e=>a k ((h.hold m c).1.blk_lt k e)),(h.hold m c).2⟩⟩
theorem vu.later {log waits:List TxM} (h:vu w b lv wv sv S log waits) (a:Bw w w'):vu w' b lv wv sv S log waits:=h.kept a.block a.size
theorem vu.st {log waits:List TxM} (h:vu w b lv wv sv S log waits):qfs w b 9 sv S.l:=⟨⟨h.box.cell 9 _ rfl,h.box.free 9 (by simp[vz]),h.box.lt⟩,h.own,h.ns,h.ok⟩
theorem vu.store {log waits:List TxM} {r:List Hd} (h:vu w b lv wv sv S log waits) (z:qdg w b 9 sv r w'):
 ∃d,vu w' b lv wv d {S with l:=r} log waits/\(∀k,qu b lv wv d k->qu b lv wv sv k\/w.heap.size<=k)/\qc (qu b lv wv sv) w w':=by
 obtain⟨d,f,p,g,s⟩:=z
 have n:∀k,k<w.heap.size->k≠b->sv.ownBlock≠some k->w'.heap[k]?=w.heap[k]?:=λk c a A=>g.block k c (λe=>by
  rcases e with e|e
  ·exact a e
  exact A e)
 have B:=λk e=>n k (h.rlog.lt k e).2 (λx=>h.nl (by rw[<-x];exact e)) (h.ls k e);have C:=λk e=>n k (h.rwait.lt k e).2 (λx=>h.nw (by rw[<-x];exact e)) (h.ws k e)
 have t:∀k,qu b lv wv d k->qu b lv wv sv k\/w.heap.size<=k:=λk c=>by
  rcases c with c|c|c|c
  ·exact .inl (.inl c)
  ·exact .inl (.inr (.inl c))
  ·exact .inl (.inr (.inr (.inl c)))
  rcases p k c with a|a
  ·exact .inl (.inr (.inr (.inr a)))
  exact .inr a
 refine⟨d,⟨⟨λj v u=>?_,λj D=>?_,f.box.lt⟩,qf h.rlog B,qf h.rwait C,f.own,f.ok,h.nl,h.nw,f.apart,h.lw,λk e=>?_,λk e=>?_,λm i=>⟨(h.hold m i).1.kept (λk e=>?_),λk e o=>?_⟩⟩,t,⟨g.os,g.tape,g.output,g.size,λk c o=>n k c (λe=>o (.inl e)) (λe=>o (.inr (.inr (.inr e))))⟩⟩
 ·by_cases e:j=9
  ·subst e
   have E:v=d:=by simpa[vz]using u.symm
   rw[E];exact f.box.cell
  rw[(s j e).1];refine h.box.cell j v ?_;rw[<-u];unfold vz
  match j,e with
  |0,_=>rfl
  |1,_=>rfl
  |2,_=>rfl
  |3,_=>rfl
  |4,_=>rfl
  |5,_=>rfl
  |6,_=>rfl
  |7,_=>rfl
  |8,_=>rfl
  |j+10,_=>rfl
 ·by_cases e:j=9
  ·subst e;exact f.box.free
  rw[(s j e).2];exact h.box.free j D
 ·intro q;rcases p k q with a|a
  ·exact h.ls k e a
  have:=(h.rlog.lt k e).2;omega
 ·intro q;rcases p k q with a|a
  ·exact h.ws k e a
  have:=(h.rwait.lt k e).2;omega
 ·have F:=(h.hold m i).1.blk_lt k e;have y:=(h.hold m i).2 k e;exact n k F (λx=>y (.inl x)) (λx=>y (.inr (.inr (.inr x))))
 rcases t k o with a|a
 ·exact(h.hold m i).2 k e a
 have:=(h.hold m i).1.blk_lt k e;omega
end
section
structure qjv (w0:World) (b:Nat) (lv wv sv:Value) (S:qe) (log waits:List TxM) (m:TxM) (k:Nat) (sv':Value) (wr:World):Prop where
 mem:vu wr b lv wv sv' {S with l:=qbz m.t (m.t.ws.take k) S.l} log waits
 box:qd wr w0.heap.size (txC m)
 far:¬qu b lv wv sv' w0.heap.size
 foot:∀j,qu b lv wv sv' j->qu b lv wv sv j\/w0.heap.size<=j
 touch:qc (qu b lv wv sv) w0 wr
variable {w0 wr w':World} {b k:Nat} {lv wv sv:Value} {S:qe} {m:TxM}
theorem qjv.later {log waits:List TxM} {c:Value} (h:qjv w0 b lv wv sv S log waits m k c wr) (a:Bw wr w'):qjv w0 b lv wv sv S log waits m k c w':=
 ⟨h.mem.later a,h.box.later a,h.far,h.foot,h.touch.trans (qc.ofBelow a)⟩
theorem qjv.put {log waits:List TxM} {e:Value} (h:qjv w0 b lv wv sv S log waits m k e wr) (i:k<m.t.ws.length)
 (n:qdg wr b 9 e (qa4 (qbz m.t (m.t.ws.take k) S.l) (qa7 m.t.ws k).key (qne m.t (qa7 m.t.ws k))) w'):∃c,qjv w0 b lv wv sv S log waits m (k+1) c w':=by
 obtain⟨c,o,f,d⟩:=h.mem.store n;refine⟨c,by rw[qpz i];exact o,h.box.kept (d.block _ h.box.lt h.far) d.size,λp=>?_,λj q=>?_,h.touch.more d h.foot⟩
 ·rcases f _ p with a|a
  ·exact h.far a
  have:=h.box.lt;omega
 rcases f j q with a|a
 ·exact h.foot j a
 exact .inr (by have:=h.touch.size;omega)
theorem qjv.outside {log waits:List TxM} {c:Value} {d:Nat} {xs:List Value} {f:List Hd} (h:qjv w0 b lv wv sv S log waits m k c wr)
 (i:qdg wr b 9 c f w') (e:qd wr d xs) (j:¬qu b lv wv c d):ApB w0.heap.size d (txC m) xs w':=by
 obtain⟨l,n,o,a⟩:=h.mem.store i;exact⟨h.box.kept (a.block _ h.box.lt h.far) a.size,e.kept (a.block _ e.lt j) a.size⟩
variable {w:World}
theorem vu.cells {S':qe} {log waits:List TxM} (h:vu w b lv wv sv S log waits) (a:∀k,k≠b->w'.heap[k]?=w.heap[k]?) (f:qd w' b (vz S' lv wv sv)) (d:S'.l=S.l):vu w' b lv wv sv S' log waits:=
 ⟨f,qf h.rlog (λk e=>a k (λx=>h.nl (by rw[<-x];exact e))),qf h.rwait (λk e=>a k (λx=>h.nw (by rw[<-x];exact e))),by rw[d];exact qf h.own (λk e=>a k (λx=>h.ns (by rw[<-x];exact e))),by rw[d];exact h.ok,h.nl,h.nw,h.ns,h.lw,h.ls,h.ws,
   λm c=>⟨(h.hold m c).1.kept (λk e=>a k (λx=>(h.hold m c).2 k e (.inl x))),(h.hold m c).2⟩⟩
variable {s:Int}
theorem vu.seq {log waits:List TxM} (h:vu w b lv wv sv S log waits) (x:Int) (d:0<=s) (e:s<=3):
 vu (w.setCell (AD b (1+s.toNat)) (U x)) b lv wv sv {S with a0:=qch s x S.a0,a1:=qcl s x S.a1,a2:=qck s x S.a2,a3:=qcj s x S.a3} log waits:=by
 refine h.cells (λk a=>jce _ _ _ _ a) ?_ rfl;have R:=h.box.set (1+s.toNat) (U x) (by simp[vz];omega)
 have c:s=0\/s=1\/s=2\/s=3:=by omega
 rcases c with rfl|rfl|rfl|rfl<;>exact R
theorem vu.last {log waits:List TxM} (h:vu w b lv wv sv S log waits) (x y:Int):
 vu ((w.setCell (AD b 5) (U x)).setCell (AD b 6) (U y)) b lv wv sv {S with lw:=x,lc:=y} log waits:=
 h.cells (λk a=>(jce _ _ _ _ a).trans (jce _ _ _ _ a)) ((h.box.set 5 _ (by simp[vz])).set 6 _ (by simp[vz])) rfl
variable {wE:World} {g:Nat}
theorem vu.append {log waits:List TxM} (h:vu w b lv wv sv S log waits) (m:TxM) (r:qr w m.wa m.wc m.t.ws/\∀k,m.blk k->¬qu b lv wv sv k) {f:Nat} (n:w.grownBy wE lv.ownBlock)
 (u:wE.ownsRow 0 102 9 (.slice (PT g) (log.length+1) f) (log.length+1) (zw log++txC m)) (l:lv.ownBlock=some g\/w.heap.size<=g):
 vu (wE.setCell (AD b 7) (.slice (PT g) (log.length+1) f)) b (.slice (PT g) (log.length+1) f) wv sv S (log++[m]) waits/\(∀k,qu b (.slice (PT g) (log.length+1) f) wv sv k->qu b lv wv sv k\/w.heap.size<=k)/\
  qc (qu b lv wv sv) w (wE.setCell (AD b 7) (.slice (PT g) (log.length+1) f)):=by
 have o:∀k,k<w.heap.size->k≠b->lv.ownBlock≠some k->(wE.setCell (AD b 7) (.slice (PT g) (log.length+1) f)).heap[k]?=w.heap[k]?:=λk c a j=>
  (jce _ _ _ _ a).trans (n.block k c (λe=>j e.symm))
 have p:g≠b:=λe=>by
  rcases l with a|a
  ·exact h.nl (by rw[<-e];exact a)
  have:=h.box.lt;omega
 have gk:∀k,(Value.slice (PT g) (log.length+1) f).ownBlock=some k->g=k:=λk c=>by simpa[Value.ownBlock]using c
 have q:∀k,qu b (.slice (PT g) (log.length+1) f) wv sv k->qu b lv wv sv k\/w.heap.size<=k:=λk c=>by
  rcases c with c|c|c
  ·exact .inl (.inl c)
  ·obtain rfl:=gk k c;rcases l with a|a
   ·exact .inl (.inr (.inl a))
   exact .inr a
  exact .inl (.inr (.inr c))
 have v:∀d:TxM,(qr w d.wa d.wc d.t.ws/\∀k,d.blk k->¬qu b lv wv sv k)->qr (wE.setCell (AD b 7) (.slice (PT g) (log.length+1) f)) d.wa d.wc d.t.ws/\∀k,d.blk k->¬qu b (.slice (PT g) (log.length+1) f) wv sv k:=λd i=>
  ⟨i.1.kept (λk e=>o k (i.1.blk_lt k e) (λx=>i.2 k e (.inl x)) (λx=>i.2 k e (.inr (.inl x)))),λk e y=>by
    rcases q k y with a|a
    ·exact i.2 k e a
    have:=i.1.blk_lt k e
    omega⟩
 refine⟨⟨(h.box.grown n (λe=>h.nl e.symm)).set 7 _ (by simp[vz]),?_,qf h.rwait (λk e=>o k (h.rwait.lt k e).2 (λx=>h.nw (by rw[<-x];exact e)) (λx=>h.lw k x e)),qf h.own (λk e=>o k (h.own.lt k e).2 (λx=>h.ns (by rw[<-x];exact e)) (λx=>h.ls k x e)),h.ok,λe=>p (gk b e),h.nw,h.ns,
  λk e=>?_,λk e=>?_,h.ws,λd i=>v d ?_⟩,q,?_⟩
 ·have:=u.kept (row:=some b) (qhs b 7 wE (.slice (PT g) (log.length+1) f)) (.inr (λe=>p (gk b e)));rw[qkf,jcl];exact this
 ·obtain rfl:=gk k e;rcases l with a|a
  ·exact h.lw _ a
  intro x;have:=(h.rwait.lt _ x).2;omega
 ·obtain rfl:=gk k e;rcases l with a|a
  ·exact h.ls _ a
  intro x;have:=(h.own.lt _ x).2;omega
 ·rcases jcf.1 i with a|a
  ·rcases jcf.1 a with j|j
   ·exact h.hold d (jcf.2 (.inl j))
   obtain rfl:=jcj.1 j;exact r
  exact h.hold d (jcf.2 (.inr a))
 exact(qc.grown n (λk c=>.inr (.inl c))).trans (qc.setCell wE (AD b 7) _ (.inl rfl))
structure ApE (w0:World) (b:Nat) (lv wv sv:Value) (S:qe) (log waits:List TxM) (m:TxM) (sv':Value) (wr:World):Prop where
 mem:vu wr b lv wv sv' S log waits
 box:qd wr w0.heap.size (txC m)
 far:¬qu b lv wv sv' w0.heap.size
 foot:∀j,qu b lv wv sv' j->qu b lv wv sv j\/w0.heap.size<=j
 touch:qc (qu b lv wv sv) w0 wr
theorem ApE.later {log waits:List TxM} {c:Value} (h:ApE w0 b lv wv sv S log waits m c wr) (a:Bw wr w'):ApE w0 b lv wv sv S log waits m c w':=
 ⟨h.mem.later a,h.box.later a,h.far,h.foot,h.touch.trans (qc.ofBelow a)⟩
theorem ApE.seq {log waits:List TxM} {a:Value} (h:ApE w0 b lv wv sv S log waits m a wr) (x:Int) (c:0<=s) (d:s<=3):
 ApE w0 b lv wv sv {S with a0:=qch s x S.a0,a1:=qcl s x S.a1,a2:=qck s x S.a2,a3:=qcj s x S.a3} log waits m a (wr.setCell (AD b (1+s.toNat)) (U x)):=
 ⟨h.mem.seq x c d,h.box.far _ _ (λe=>h.far (.inl e.symm)),h.far,h.foot,h.touch.trans (qc.setCell wr (AD b (1+s.toNat)) _ (.inl rfl))⟩
theorem ApE.last {log waits:List TxM} {a:Value} (h:ApE w0 b lv wv sv S log waits m a wr) (x y:Int):
 ApE w0 b lv wv sv {S with lw:=x,lc:=y} log waits m a ((wr.setCell (AD b 5) (U x)).setCell (AD b 6) (U y)):=
 ⟨h.mem.last x y,(h.box.far _ _ (λe=>h.far (.inl e.symm))).far _ _ (λe=>h.far (.inl e.symm)),h.far,h.foot,(h.touch.trans (qc.setCell wr (AD b 5) _ (.inl rfl))).trans (qc.setCell _ (AD b 6) _ (.inl rfl))⟩
theorem ApE.append {log waits:List TxM} {l:Value} (h:ApE w0 b lv wv sv S log waits m l wr) (a:qr w0 m.wa m.wc m.t.ws/\∀k,m.blk k->¬qu b lv wv sv k) {d:Nat} (n:wr.grownBy wE lv.ownBlock)
 (o:wE.ownsRow 0 102 9 (.slice (PT g) (log.length+1) d) (log.length+1) (zw log++txC m)) (p:lv.ownBlock=some g\/wr.heap.size<=g):
 ∃f i,vu (wE.setCell (AD b 7) (.slice (PT g) (log.length+1) d)) b f wv i S (log++[m]) waits/\(∀k,qu b f wv i k->qu b lv wv sv k\/w0.heap.size<=k)/\qc (qu b lv wv sv) w0 (wE.setCell (AD b 7) (.slice (PT g) (log.length+1) d)):=by
 obtain⟨c,q,r⟩:=h.mem.append m ⟨a.1.kept (λk e=>h.touch.block k (a.1.blk_lt k e) (a.2 k e)),λk e u=>by
  rcases h.foot k u with c|c
  ·exact a.2 k e c
  have:=a.1.blk_lt k e
  omega⟩ n o p
 refine⟨_,_,c,λk v=>?_,h.touch.more r h.foot⟩;rcases q k v with j|j
 ·exact h.foot k j
 exact .inr (by have:=h.touch.size;omega)
end
theorem qj3 {b:Nat} {lv wv sv:Value} {S:qe} {log waits:List TxM} (m:TxM) (w:World) (h:vu w b lv wv sv S log waits) (O:qr w m.wa m.wc m.t.ws/\∀k,m.blk k->¬qu b lv wv sv k) (hs0:0<=m.t.site) (hs1:m.t.site<=3) (hl:S.l.length+m.t.ws.length<=1000) (hlog:log.length<=1000):
 Ca 129 #[PP b,.agg (List.toArray (T9 m.t.site m.t.seq m.t.wall m.t.count m.t.d0 m.t.d1 m.t.d2 m.t.d3 m.wa m.t.ws.length m.wc))] w λe w'=>
  e=.returned (.tuple #[])/\∃C p,vu w' b C wv p (vr S m.t) (log++[m]) waits/\(∀k,qu b C wv p k->qu b lv wv sv k\/w.heap.size<=k)/\qc (qu b lv wv sv) w w':=by
 have hb:=boxed (jcc _ w) (.cells (List.toArray (T9 m.t.site m.t.seq m.t.wall m.t.count m.t.d0 m.t.d1 m.t.d2 m.t.d3 m.wa m.t.ws.length m.wc)) 102);have RT:=qd.new (w:=w) (T:=102) (txC m) rfl;change qd (w.alloc (.cells (List.toArray (T9 m.t.site m.t.seq m.t.wall m.t.count m.t.d0 m.t.d1 m.t.d2 m.t.d3 m.wa m.t.ws.length m.wc)) 102)) w.heap.size (txC m)at RT
 have M0:qjv w b lv wv sv S log waits m 0 sv (w.alloc (.cells (List.toArray (T9 m.t.site m.t.seq m.t.wall m.t.count m.t.d0 m.t.d1 m.t.d2 m.t.d3 m.wa m.t.ws.length m.wc)) 102)):=
  ⟨by simpa[qbz]using h.later hb,RT,λe=>Nat.lt_irrefl _ (h.lt _ e),λj hj=>.inl hj,qc.ofBelow hb⟩
 have J:=hd1 O;have hc1:=O.1.len;have hc2:=O.1.cap;go_enter Tryz.func129,Tryz.ntmps129
 go_wp2_with fail
 obtain⟨W,hWW⟩:∃W,w.alloc (.cells (List.toArray (T9 m.t.site m.t.seq m.t.wall m.t.count m.t.d0 m.t.d1 m.t.d2 m.t.d3 m.wa m.t.ws.length m.wc)) 102)=W:=⟨_,rfl⟩;rw[hWW]at M0 ⊢
 go_loopw [9] (λiv wr=>∃(k:Nat) (z:Int) (p:Value),k<=m.t.ws.length/\z=k/\iv=U z/\Hid (qjv w b lv wv sv S log waits m k p wr)) (λi _=>m.t.ws.length-(intOf i).toNat)
 case atStart=>exact⟨0,0,sv,by omega,rfl,rfl,M0⟩
 obtain⟨k,z,p,hk,hz,rfl,K⟩:=hrel;have HZ:=hd1 hz;by_cases E:k<m.t.ws.length
 ·have n:z<(m.t.ws.length:Int):=by omega
  have h2:z.toNat=k:=by omega
  have h3:0<=z:=by omega
  obtain⟨q,D,P,hcc⟩:∃q D,m.wa=some (AD q D)/\qbo w q D m.t.ws:=by
   rcases J.out.1.held with Q|Q
   ·rw[Q]at E;simp at E
   exact Q
  have hblk:m.blk q:=⟨λe=>by rw[e]at E;simp at E,D,P⟩;have hwl:=J.out.1.blk_lt q hblk;have R:=K.out.touch.block q hwl (J.out.2 q hblk);obtain⟨⟨a,c,d⟩,hx⟩:∃x,qa7 m.t.ws k=x:=⟨_,rfl⟩;have L:=hcc k E;rw[hx]at L
  have x0:wr.cell? (AD q (D+k*3))=some (U a):=by rw[jch (w:=w) R];exact L.1
  have x1:wr.cell? (AD q (D+k*3+1))=some (.string c):=by rw[jch (w:=w) R];exact L.2.1
  have x2:wr.cell? (AD q (D+k*3+2))=some (.bool d):=by rw[jch (w:=w) R];exact L.2.2
  have HX:=hd1 hx;have HWA:=hd1 P;rw[P];have hbx:=boxed (jcc _ wr) (.cells #[U a,.string c,.bool d] 100);have M:=(K.out.later hbx).later (jcc _ (wr.alloc (.cells #[U a,.string c,.bool d] 100))).drew;have V:=(qd.new (w:=wr) (T:=100) [U a,.string c,.bool d] rfl).drew;change qd (wr.alloc (.cells #[U a,.string c,.bool d] 100)).drew wr.heap.size [U a,.string c,.bool d]at V;have SB:ApB w.heap.size wr.heap.size (txC m) [U a,.string c,.bool d] (wr.alloc (.cells #[U a,.string c,.bool d] 100)).drew:=⟨M.box,V⟩
  have hll:(qbz m.t (m.t.ws.take k) S.l).length<=1000:=by
   have:=qf1 m.t (m.t.ws.take k) S.l;rw[jc5]at this;omega
  have PU:Hid (Ca 181 #[.pointer (some (AD b 9)),U a,.agg #[U m.t.wall,U m.t.count,U m.t.site,U m.t.seq,.string c,.bool d]] (wr.alloc (.cells #[U a,.string c,.bool d] 100)).drew λe w'=>e=.returned (U (qb5 (qbz m.t (m.t.ws.take k) S.l) a ⟨m.t.wall,m.t.count,m.t.site,m.t.seq,c,d⟩))/\ApB w.heap.size wr.heap.size (txC m) [U a,.string c,.bool d] w'/\∃u,Hid (qjv w b lv wv sv S log waits m (k+1) u w')):=
   (q7r a ⟨m.t.wall,m.t.count,m.t.site,m.t.seq,c,d⟩ _ M.mem.st hll).mono λe w' ⟨he,hp⟩=>⟨he,M.outside hp V (λhf=>Nat.lt_irrefl _ (K.out.mem.lt _ hf)),M.put E (by rw[HX.out];exact hp)⟩
  have T0:=λ(w':World) (h:ApB w.heap.size wr.heap.size (txC m) [U a,.string c,.bool d] w')=>h.t.cell 0 _ rfl;have T1:=λ(w':World) (h:ApB w.heap.size wr.heap.size (txC m) [U a,.string c,.bool d] w')=>h.t.cell 1 _ rfl;have T2:=λ(w':World) (h:ApB w.heap.size wr.heap.size (txC m) [U a,.string c,.bool d] w')=>h.t.cell 2 _ rfl;have T3:=λ(w':World) (h:ApB w.heap.size wr.heap.size (txC m) [U a,.string c,.bool d] w')=>h.t.cell 3 _ rfl;have X0:=λ(w':World) (h:ApB w.heap.size wr.heap.size (txC m) [U a,.string c,.bool d] w')=>h.x.cell 0 _ rfl;have X1:=λ(w':World) (h:ApB w.heap.size wr.heap.size (txC m) [U a,.string c,.bool d] w')=>h.x.cell 1 _ rfl;have X2:=λ(w':World) (h:ApB w.heap.size wr.heap.size (txC m) [U a,.string c,.bool d] w')=>h.x.cell 2 _ rfl
  go_wp2_with fail
  go_region_held3 (λw'=>ApB w.heap.size wr.heap.size (txC m) [U a,.string c,.bool d] w') (with_reducible assumption)
   (first|(go_at_call 181;with_reducible refine PU.out.mono ?_;rintro e y ⟨rfl,SB5,u,AM3⟩))
  all_goals
   go_wp2_with fail
   go_roundw
   case rel=>exact⟨k+1,z+1,u,by omega,by have:=HZ.out;omega,by go_num,AM3⟩
   simp[intOf];have:=HZ.out;omega
 have h4:¬z<(m.t.ws.length:Int):=by omega
 obtain rfl:k=m.t.ws.length:=by omega
 have N:Hid (ApE w b lv wv sv {S with l:=qbz m.t m.t.ws S.l} log waits m p wr):=by
  have G:=K.out;refine⟨?_,G.box,G.far,G.foot,G.touch⟩;have:=G.mem;rw[jc9]at this;exact this
 have BX:=N.out.box;have t0:=BX.cell 0 _ rfl;have t1:=BX.cell 1 _ rfl;have s1:=N.out.mem.box.free (1+m.t.site.toNat) (by simp[vz];omega);obtain⟨ov,s0⟩:∃v,wr.cell? (AD b (1+m.t.site.toNat))=some v:=⟨_,N.out.mem.box.cell (1+m.t.site.toNat) _ (jcg (by simp[vz];omega))⟩
 go_wp2_with fail
 go_region
 have F:Hid (ApE w b lv wv sv {S with l:=qbz m.t m.t.ws S.l,a0:=qch m.t.site m.t.seq S.a0,a1:=qcl m.t.site m.t.seq S.a1,a2:=qck m.t.site m.t.seq S.a2,a3:=qcj m.t.site m.t.seq S.a3} log waits m p (wr.setCell (AD b (1+m.t.site.toNat)) (U m.t.seq)).drew):=(N.out.seq m.t.seq hs0 hs1).later (jcc _ _).drew;obtain⟨W1,hW1⟩:∃W1,(wr.setCell (AD b (1+m.t.site.toNat)) (U m.t.seq)).drew=W1:=⟨_,rfl⟩;rw[hW1]at F ⊢;have t2:=qb.cell (F.out.box.cell 2 _ rfl);have t3:=qb.cell (F.out.box.cell 3 _ rfl);have l5:=qb.cell (F.out.mem.box.cell 5 _ rfl);have l6:=qb.cell (F.out.mem.box.cell 6 _ rfl)
 go_wp2_with fail
 refine wrl ?_
 repeat (go_big_quiet_step (first|rfl|(go_at_call 182;exact qg (qgf _ _ _ _ _))))
 refine wpQuiet_nil ?_;rintro y ⟨⟨_,hb7⟩,rfl⟩;have f:=hd1 (F.out.later hb7)
 have FIN9:∀(X:qe) (o:World),Hid (ApE w b lv wv sv X log waits m p o)->{X with log:=S.log++[m.t]}=vr S m.t->∀(g B:Nat) (r:World),(o.drew.alloc (.cells (List.toArray (T9 m.t.site m.t.seq m.t.wall m.t.count m.t.d0 m.t.d1 m.t.d2 m.t.d3 m.wa m.t.ws.length m.wc)) 102)).grownBy r lv.ownBlock->
  r.ownsRow 0 102 9 (.slice (PT g) (log.length+1) B) (log.length+1) (zw log++txC m)->(lv.ownBlock=some g\/g=(o.drew.alloc (.cells (List.toArray (T9 m.t.site m.t.seq m.t.wall m.t.count m.t.d0 m.t.d1 m.t.d2 m.t.d3 m.wa m.t.ws.length m.wc)) 102)).heap.size)->
  Hid (∃C u,vu (r.setCell (AD b 7) (.slice (PT g) (log.length+1) B)) b C wv u (vr S m.t) (log++[m]) waits/\(∀k,qu b C wv u k->qu b lv wv sv k\/w.heap.size<=k)/\qc (qu b lv wv sv) w (r.setCell (AD b 7) (.slice (PT g) (log.length+1) B))):=λX o A e g B r gr ow eg=>by
  have A':=A.out.later (boxed ((jcc _ o).drew) (.cells (List.toArray (T9 m.t.site m.t.seq m.t.wall m.t.count m.t.d0 m.t.d1 m.t.d2 m.t.d3 m.wa m.t.ws.length m.wc)) 102));obtain⟨C,u,n,h2,h3⟩:=A'.append J.out gr ow (eg.imp id (λe=>Nat.le_of_eq e.symm));rw[<-e];exact⟨C,u,⟨n.box,n.rlog,n.rwait,n.own,n.ok,n.nl,n.nw,n.ns,n.lw,n.ls,n.ws,n.hold⟩,h2,h3⟩
 obtain⟨i0,hi,hz0,hz1,hz2⟩:=info_parts qpi;cases hd:decide (0<qdr m.t.wall m.t.count S.lw S.lc)
 ·have Y:=FIN9 _ y f (by simp only[vr];have:=of_decide_eq_false hd;simp[this]);obtain⟨t0,t1,t2,t3,t4,t5,t6,t7,t8⟩:=f.out.box.c9;have s7:=f.out.mem.box.cell 7 _ rfl;have f7:=f.out.mem.box.free 7 (by simp[vz]);have Z:y.drew.ownsRow 0 102 9 lv log.length (zw log):=f.out.mem.rlog;have hsb:=f.out.mem.box.lt;have nb:some b≠lv.ownBlock:=λe=>f.out.mem.nl e.symm;have bx:qd y b (vz _ lv wv p):=f.out.mem.box
  go_wp2_with fail
  go_region_law (refine step_append_lies _ rfl (.tmp 56) (.tmp 58) 80 rfl 0 102 i0 (.agg ZA) 9 88 Tryz.underlying80 hi hz0 hz1 hz2 rfl (by decide) lv log.length (zw log) (by simp[Act.eval]) (Z.alloc _) (AD y.heap.size 0) 1 1 (txC m) (by simp[Act.eval]) rfl (World.news_of_block (heap_alloc_new y.drew (.cells (List.toArray (T9 m.t.site m.t.seq m.t.wall m.t.count m.t.d0 m.t.d1 m.t.d2 m.t.d3 m.wa m.t.ws.length m.wc)) 102))) (qih m) (by decide) (by simp only[maxLen];omega) (by omega) (by simp) _ rfl ?_
                 intro g B r ownE H egE ltE;have FIN:=Y g B r H ownE egE;have I:=((bx.drew).boxed (.cells (List.toArray (T9 m.t.site m.t.seq m.t.wall m.t.count m.t.d0 m.t.d1 m.t.d2 m.t.d3 m.wa m.t.ws.length m.wc)) 102)).grown H nb;have s0E:=I.cell 7 _ rfl
                 have s1E:=I.free 7 (by simp[vz]))
  all_goals
   go_wp2_with fail
   go_end0;exact⟨rfl,FIN.out⟩
 have k2:=f.out.box.cell 2 _ rfl;have k3:=f.out.box.cell 3 _ rfl;have k5:=f.out.mem.box.cell 5 _ rfl;have k6:=f.out.mem.box.cell 6 _ rfl;have q5:=f.out.mem.box.free 5 (by simp[vz]);have q6:=f.out.mem.box.free 6 (by simp[vz])
 go_wp2_with fail
 have s:Hid (ApE w b lv wv sv {S with l:=qbz m.t m.t.ws S.l,a0:=qch m.t.site m.t.seq S.a0,a1:=qcl m.t.site m.t.seq S.a1,a2:=qck m.t.site m.t.seq S.a2,a3:=qcj m.t.site m.t.seq S.a3,lw:=m.t.wall,lc:=m.t.count} log waits m p ((y.setCell (AD b 5) (U m.t.wall)).setCell (AD b 6) (U m.t.count))):=f.out.last m.t.wall m.t.count;obtain⟨o,hw6⟩:∃o,(y.setCell (AD b 5) (U m.t.wall)).setCell (AD b 6) (U m.t.count)=o:=⟨_,rfl⟩;rw[hw6]at s ⊢;have Y:=FIN9 _ o s (by simp only[vr];have:=of_decide_eq_true hd;simp[this]);obtain⟨t0,t1,t2,t3,t4,t5,t6,t7,t8⟩:=s.out.box.c9;have s7:=s.out.mem.box.cell 7 _ rfl;have f7:=s.out.mem.box.free 7 (by simp[vz]);have Z:o.drew.ownsRow 0 102 9 lv log.length (zw log):=s.out.mem.rlog;have hsb:=s.out.mem.box.lt;have nb:some b≠lv.ownBlock:=λe=>s.out.mem.nl e.symm;have bx:qd o b (vz _ lv wv p):=s.out.mem.box
 go_wp2_with fail
 go_region_law (refine step_append_lies _ rfl (.tmp 56) (.tmp 58) 80 rfl 0 102 i0 (.agg ZA) 9 88 Tryz.underlying80 hi hz0 hz1 hz2 rfl (by decide) lv log.length (zw log) (by simp[Act.eval]) (Z.alloc _) (AD o.heap.size 0) 1 1 (txC m) (by simp[Act.eval]) rfl (World.news_of_block (heap_alloc_new o.drew (.cells (List.toArray (T9 m.t.site m.t.seq m.t.wall m.t.count m.t.d0 m.t.d1 m.t.d2 m.t.d3 m.wa m.t.ws.length m.wc)) 102))) (qih m) (by decide) (by simp only[maxLen];omega) (by omega) (by simp) _ rfl ?_
                intro g B r ownE H egE ltE;have FIN:=Y g B r H ownE egE;have I:=((bx.drew).boxed (.cells (List.toArray (T9 m.t.site m.t.seq m.t.wall m.t.count m.t.d0 m.t.d1 m.t.d2 m.t.d3 m.wa m.t.ws.length m.wc)) 102)).grown H nb;have s0E:=I.cell 7 _ rfl
                have s1E:=I.free 7 (by simp[vz]))
 all_goals
  go_wp2_with fail
  go_end0;exact⟨rfl,FIN.out⟩
theorem qpt {b:Nat} {lv wv sv:Value} {S:qe} {log waits:List TxM} (a c d f:Int) (w:World) (h:vu w b lv wv sv S log waits) (hs:∀m∈log,0<=m.t.site/\m.t.site<=3) (hl:log.length<=1000):
 Ca 85 #[PP b,.agg #[U a,U c,U d,U f]] w λe w'=>
  ∃v,e=.returned v/\w'.ownsRow (w.heap.size+1) 102 9 v (log.filter (qcs a c d f)).length (zw (log.filter (qcs a c d f)))/\Bw w w':=by
 obtain⟨la,lc,rfl,O⟩:=yx h.rlog;have hc1:=O.len;have hc2:=O.cap;have E:=qo.new w 77 a c d f;have C:=boxed (jcc _ w) (.cells #[U a,U c,U d,U f] 77);have s7:=cell_later C (h.box.cell 7 _ rfl);have HH:=hd1 h;have HS:=hd1 hs;go_enter Tryz.func85,Tryz.ntmps85
 go_wp2_with fail
 obtain⟨W,hWW⟩:∃W,w.alloc (.cells #[U a,U c,U d,U f] 77)=W:=⟨_,rfl⟩;rw[hWW]at E C s7 ⊢
 go_loopw [5,13] (λsl iv wr=>∃(k:Nat) (z:Int) (D:List TxM) (H:Value),H=sl/\k<=log.length/\z=k/\iv=U z/\(log.take k).filter (qcs a c d f)=D/\wr.ownsRow (w.heap.size+1) 102 9 H D.length (zw D)/\qo wr w.heap.size a c d f/\Bw w wr) (λ_ i _=>log.length-(intOf i).toNat)
 case atStart=>exact⟨0,0,[],_,rfl,by omega,rfl,rfl,by simp,jcx _ _ _ _,E,C⟩
 obtain⟨k,z,D,H,hsl,hk,hz,rfl,K,F,E,C⟩:=hrel;subst hsl;have X:=hd1 hz;by_cases P:k<log.length
 ·have g1:z<(log.length:Int):=by omega
  have g2:z.toNat=k:=by omega
  have g3:0<=z:=by omega
  have hk6:D.length<=1000:=by
   rw[<-K];have a1:=jdo (qcs a c d f) (log.take k);have a2:=List.length_take_le k log;omega
  obtain⟨L,M,hwa,hcc⟩:∃L M,la=some (AD L M)/\∀i m r u,log[i]?=some m->(txC m)[r]?=some u->w.cell? (AD L (M+(i*9+r)))=some u:=by
   rcases O.held with e|e
   ·rw[e]at P;simp at P
   exact e
  obtain⟨⟨⟨l,n,wall,o,p,q,s,x,ws⟩,y,B⟩,Q⟩:∃m,log[k]?=some m:=⟨log[k],jcg P⟩;obtain⟨Y,Z⟩:=HS.out _ (jcq Q);simp only at Y Z;have HX:=hd1 Q;have HKP:=hd1 K;have G:=λr u (hu:(txC ⟨⟨l,n,wall,o,p,q,s,x,ws⟩,y,B⟩)[r]?=some u)=>(show wr.cell? (AD L (M+k*9+r))=some u by rw[Nat.add_assoc];exact cell_later C (hcc k _ r u Q hu));have x0:=G 0 _ rfl;have x1:=G 1 _ rfl;have x2:=G 2 _ rfl;have x3:=G 3 _ rfl;have x4:=G 4 _ rfl;have x5:=G 5 _ rfl;have x6:=G 6 _ rfl;have x7:=G 7 _ rfl;have x8:=G 8 _ rfl;rw[Nat.add_zero]at x0;rw[hwa];replace E:=E.boxed (.cells (List.toArray (T9 l n wall o p q s x y ws.length B)) 102);replace F:=F.alloc (.cells (List.toArray (T9 l n wall o p q s x y ws.length B)) 102);replace C:=boxed C (.cells (List.toArray (T9 l n wall o p q s x y ws.length B)) 102);have I:=qd.new (w:=wr) (T:=102) (T9 l n wall o p q s x y ws.length B) rfl;have y0:=qb.cell (I.cell 0 _ rfl);have y1:=qb.cell (I.cell 1 _ rfl);have va:=qb.cell (qk9 E Y Z);have KE:Hid (qcs a c d f ⟨⟨l,n,wall,o,p,q,s,x,ws⟩,y,B⟩=decide (qp l a c d f<n)):=rfl
  go_wp2_with fail
  refine wrl ?_
  repeat (go_big_quiet_step (first|rfl|fail))
  refine wpQuiet_nil ?_;rintro R ⟨⟨_,N⟩,rfl⟩;replace E:=E.later N;replace I:=I.later N;replace F:=qf F (λj J=>N.block j (F.lt j J).2);replace C:=qa C N;cases hd:decide (qp l a c d f<n)
  ·have V:Hid ((log.take (k+1)).filter (qcs a c d f)=D):=by
        have e:qcs a c d f ⟨⟨l,n,wall,o,p,q,s,x,ws⟩,y,B⟩=false:=by rw[KE.out];exact hd
        show (log.take (k+1)).filter (qcs a c d f)=D;rw[jdu,HX.out,jdk,HKP.out];simp[e]
   go_wp2_with fail
   go_roundw
   case rel=>exact⟨k+1,z+1,D,_,rfl,by omega,by have:=X.out;omega,by go_num,V.out,F,E,C⟩
   simp[intOf];omega
  have V:Hid ((log.take (k+1)).filter (qcs a c d f)=D++[⟨⟨l,n,wall,o,p,q,s,x,ws⟩,y,B⟩]):=by
   have e:qcs a c d f ⟨⟨l,n,wall,o,p,q,s,x,ws⟩,y,B⟩=true:=by rw[KE.out];exact hd
   show (log.take (k+1)).filter (qcs a c d f)=_;rw[jdu,HX.out,jdk,HKP.out];simp[e]
  obtain⟨y0,y1,y2,y3,y4,y5,y6,y7,y8⟩:=I.c9;obtain⟨i0,hi,hz0,hz1,hz2⟩:=info_parts qpi
  have hsz5:w.heap.size+1<=R.heap.size:=by have:=E.lt;omega
  go_wp2_with (at_builtin;refine wpList_append_lies _ rfl (.tmp 24) (.tmp 26) 80 rfl (w.heap.size+1) 102 i0 (.agg ZA) 9 88 Tryz.underlying80 hi hz0 hz1 hz2 rfl (by decide) H D.length (zw D) rfl (F.alloc _) (AD R.heap.size 0) 1 1 (txC ⟨⟨l,n,wall,o,p,q,s,x,ws⟩,y,B⟩) rfl rfl (World.news_of_block (heap_alloc_new R (.cells (List.toArray (T9 l n wall o p q s x y ws.length B)) 102))) (qih _) (by decide) (by simp only[maxLen];omega) (by omega) (by simp;omega) _ rfl ?_;intro g cap9 wE ownE grE egE ltE)
  have rowsg:=λj J=>(F.lt j J).1;have RAE:=(E.boxed (.cells (List.toArray (T9 l n wall o p q s x y ws.length B)) 102)).grown4 grE (λe=>by have:=rowsg _ e.symm;omega);have hbE:=(boxed C (.cells (List.toArray (T9 l n wall o p q s x y ws.length B)) 102)).grown grE (by have:=C.size;simp;omega) (λj J=>by have:=rowsg j J;omega)
  go_roundw
  case rel=>exact⟨k+1,z+1,D++[⟨⟨l,n,wall,o,p,q,s,x,ws⟩,y,B⟩],_,rfl,by omega,by have:=X.out;omega,by go_num,V.out,by rw[qkf,jcl];exact ownE,RAE,hbE⟩
  simp[intOf];omega
 have g1:¬z<(log.length:Int):=by omega
 obtain rfl:k=log.length:=by omega
 rw[jc9]at K
 go_wp2_with fail
 go_ret;exact⟨H,rfl,by first|exact F|(rw[K];exact F),C⟩
theorem qnw (b s cap:Nat) (l:List Wr) (w:World) (I:qbo w b s l) (N:l.length<=cap) (O:cap<=9223372036854775807):
 Ca 177 #[.slice (some (AD b s)) l.length cap] w (Rn (.bool (qad l)) w):=by
 have P:=qb.one;go_enter Tryz.func177,Tryz.ntmps177
 go_wp2
 go_loopw [7] (λi wr=>∃(k:Nat) (z:Int),k<=l.length/\z=k/\i=U z/\(∀j,j<k->qdd l j=true)/\Bw w wr/\qbo wr b s l) (λi _=>l.length-(intOf i).toNat)
 case atStart=>exact⟨0,0,by omega,rfl,rfl,λj J=>by omega,jcc _ _,I⟩
 obtain⟨k,z,Q,u,rfl,v,y,C⟩:=hrel;have p:=hd1 v;clear v;by_cases m:k<l.length
 ·obtain⟨x0,x1,x2⟩:=C k m
  have R:z<(l.length:Int):=by omega
  have S:z.toNat=k:=by omega
  have T:0<=z:=by omega
  have o:=hd1 u;clear u;obtain⟨⟨key,data,gone⟩,t⟩:∃x,qa7 l k=x:=⟨_,rfl⟩;rw[t]at x0 x1 x2;have K:=hd1 t;clear t;simp only at x0 x1 x2;have f:=boxed y (.cells #[U key,.string data,.bool gone] 100);have q:=C.later (boxed (jcc _ wr) (.cells #[U key,.string data,.bool gone] 100))
  have B:(wr.alloc (.cells #[U key,.string data,.bool gone] 100)).cell? (AD wr.heap.size 0)=some (U key):=by go_simp
  have D:(wr.alloc (.cells #[U key,.string data,.bool gone] 100)).cell? (AD wr.heap.size 1)=some (.string data):=by go_simp
  have E:(wr.alloc (.cells #[U key,.string data,.bool gone] 100)).cell? (AD wr.heap.size 2)=some (.bool gone):=by go_simp
  have c:=ql6 K.out;replace B:=qb.cell B;replace D:=qb.cell D;replace E:=qb.cell E;cases p1:inB key 0 7
  ·skip
   have d:Hid (qdd l k=false):=by rw[c];exact qso p1
   clear c
   go_wp2_with fail
   clear x0 x1 x2;refine wrl ?_
   repeat (go_big_quiet_step ((go_at_call 28;with_reducible exact qg (vj p1 _))))
   refine wpQuiet_nil ?_;rintro g ⟨⟨_,a⟩,rfl⟩
   go_wp2
   go_ret;exact⟨by rw[qef m d.out];rfl,qa f a⟩
  by_cases F:k=0
  ·have L:decide (0<z)=false:=decide_eq_false (by have:=o.out;omega);have G:=hd1 F;clear F;by_cases h:12<(data.size:Int)
   ·skip
    have d:Hid (qdd l k=false):=by rw[c];exact qtz h
    clear c
    go_wp2_with fail
    clear x0 x1 x2;refine wrl ?_
    repeat (go_big_quiet_step ((go_at_call 28;with_reducible exact qg (vj p1 _))))
    refine wpQuiet_nil ?_;rintro g ⟨⟨_,a⟩,rfl⟩
    go_wp2
    go_ret;exact⟨by rw[qef m d.out];rfl,qa f a⟩
   have M:=decide_eq_false h;cases gone
   ·skip
    have n:Hid (qdd l k=true):=by rw[c];exact qhr p1 (.inl G.out) h (.inl rfl)
    clear c
    go_wp2_with fail
    clear x0 x1 x2;refine wrl ?_
    repeat (go_big_quiet_step ((go_at_call 28;with_reducible exact qg (vj p1 _))))
    refine wpQuiet_nil ?_;rintro g ⟨⟨_,a⟩,rfl⟩
    go_wp2
    go_roundw
    case rel=>exact⟨k+1,z+1,by omega,by have:=o.out;omega,by go_num,qmg p.out n.out,qa f a,q.later a⟩
    simp[intOf];omega
   cases he:data.toList.isEmpty
   ·skip
    have d:Hid (qdd l k=false):=by rw[c];exact qpo rfl he
    clear c
    go_wp2_with fail
    clear x0 x1 x2;refine wrl ?_
    repeat (go_big_quiet_step ((go_at_call 28;with_reducible exact qg (vj p1 _))))
    refine wpQuiet_nil ?_;rintro g ⟨⟨_,a⟩,rfl⟩
    go_wp2
    go_ret;exact⟨by rw[qef m d.out];rfl,qa f a⟩
   skip
   have n:Hid (qdd l k=true):=by rw[c];exact qhr p1 (.inl G.out) h (.inr he)
   clear c
   go_wp2_with fail
   clear x0 x1 x2;refine wrl ?_
   repeat (go_big_quiet_step ((go_at_call 28;with_reducible exact qg (vj p1 _))))
   refine wpQuiet_nil ?_;rintro g ⟨⟨_,a⟩,rfl⟩
   go_wp2
   go_roundw
   case rel=>exact⟨k+1,z+1,by omega,by have:=o.out;omega,by go_num,qmg p.out n.out,qa f a,q.later a⟩
   simp[intOf];omega
  have L:0<z:=by have:=o.out;omega
  obtain⟨H,_,_⟩:=q (k-1) (by omega)
  have V:(z-1).toNat=k-1:=by omega
  have W:0<=z-1:=by omega
  have X:z-1<(l.length:Int):=by omega
  replace H:=qb.cell H;by_cases r:key<=(qa7 l (k-1)).key
  ·skip
   have d:Hid (qdd l k=false):=by rw[c];exact qvf (by omega) r
   clear c
   go_wp2_with fail
   clear x0 x1 x2;refine wrl ?_
   repeat (go_big_quiet_step ((go_at_call 28;with_reducible exact qg (vj p1 _))))
   refine wpQuiet_nil ?_;rintro g ⟨⟨_,a⟩,rfl⟩
   go_wp2
   go_ret;exact⟨by rw[qef m d.out];rfl,qa f a⟩
  have Y:=decide_eq_false r;by_cases h:12<(data.size:Int)
  ·skip
   have d:Hid (qdd l k=false):=by rw[c];exact qtz h
   clear c
   go_wp2_with fail
   clear x0 x1 x2;refine wrl ?_
   repeat (go_big_quiet_step ((go_at_call 28;with_reducible exact qg (vj p1 _))))
   refine wpQuiet_nil ?_;rintro g ⟨⟨_,a⟩,rfl⟩
   go_wp2
   go_ret;exact⟨by rw[qef m d.out];rfl,qa f a⟩
  have M:=decide_eq_false h;cases gone
  ·skip
   have n:Hid (qdd l k=true):=by rw[c];exact qhr p1 (.inr r) h (.inl rfl)
   clear c
   go_wp2_with fail
   clear x0 x1 x2;refine wrl ?_
   repeat (go_big_quiet_step ((go_at_call 28;with_reducible exact qg (vj p1 _))))
   refine wpQuiet_nil ?_;rintro g ⟨⟨_,a⟩,rfl⟩
   go_wp2
   go_roundw
   case rel=>exact⟨k+1,z+1,by omega,by have:=o.out;omega,by go_num,qmg p.out n.out,qa f a,q.later a⟩
   simp[intOf];omega
  cases he:data.toList.isEmpty
  ·skip
   have d:Hid (qdd l k=false):=by rw[c];exact qpo rfl he
   clear c
   go_wp2_with fail
   clear x0 x1 x2;refine wrl ?_
   repeat (go_big_quiet_step ((go_at_call 28;with_reducible exact qg (vj p1 _))))
   refine wpQuiet_nil ?_;rintro g ⟨⟨_,a⟩,rfl⟩
   go_wp2
   go_ret;exact⟨by rw[qef m d.out];rfl,qa f a⟩
  skip
  have n:Hid (qdd l k=true):=by rw[c];exact qhr p1 (.inr r) h (.inr he)
  clear c
  go_wp2_with fail
  clear x0 x1 x2;refine wrl ?_
  repeat (go_big_quiet_step ((go_at_call 28;with_reducible exact qg (vj p1 _))))
  refine wpQuiet_nil ?_;rintro g ⟨⟨_,a⟩,rfl⟩
  go_wp2
  go_roundw
  case rel=>exact⟨k+1,z+1,by omega,by have:=o.out;omega,by go_num,qmg p.out n.out,qa f a,q.later a⟩
  simp[intOf];omega
 go_wp2_with (go_at_call 28;refine(qgy _ _ _ _).mono ?_;rintro e Z ⟨rfl,rfl⟩)
 go_ret;exact⟨by rw[qvh (λj J=>p.out j (by omega))];rfl,y⟩
theorem qpa (a:Option Addr) (cap:Nat) (w:World):
 Ca 177 #[.slice a 0 cap] w (Rn (.bool false) w):=by
 go_enter Tryz.func177,Tryz.ntmps177
 go_wp2
 refine wp_loop_rounds 1 ?_;rw[rounds_succ]
 go_wp2_with (go_at_call 28;refine(qgy _ _ _ _).mono ?_;rintro e b ⟨rfl,rfl⟩)
 go_ret;exact⟨rfl,jcc _ _⟩
theorem qg7 {a:Option Addr} {cap:Nat} {l:List Wr} {w:World} (h:qr w a cap l):
 Ca 177 #[.slice a l.length cap] w (Rn (.bool (qad l)) w):=by
 rcases h.held with rfl|⟨b,c,rfl,d⟩
 ·exact qpa a cap w
 exact qnw b c cap l w d h.len h.cap
section
theorem qm9 (lw lc now:Int) (w:World):
 Ca 179 #[.agg #[U lw,U lc],U now] w (Rn (.tuple #[.agg #[U (qcp lw lc now).1,U (qcp lw lc now).2.1],U (qcp lw lc now).2.2]) w):=by
 unfold qcp;cases h:(qi lw&&qi lc)
 ·rw[if_pos rfl];exact qqb lw lc now w h
 rw[if_neg (by decide)]
 have d:0<=lc/\lc<=1099511627776:=by
  have f:=h;simp[qi]at f;omega
 cases h2:qi now
 ·rw[if_pos rfl];exact qof lw lc now w h h2
 rw[if_neg (by decide)];by_cases c:lw<now
 ·rw[if_pos c];exact qsu lw lc now w h h2 c
 rw[if_neg c];by_cases e:1099511627776<lc+1
 ·rw[if_pos e];exact qse lw lc now w h h2 c d.1 d.2 e
 rw[if_neg e];exact qqp lw lc now w h h2 c d.1 d.2 e
theorem yo {a0 a1 a2 a3 c d e f:Int} {v:Bool} (h:qa8 a0 a1 a2 a3 c d e f=v) (w:World):
 Ca 77 #[.agg #[U a0,U a1,U a2,U a3],.agg #[U c,U d,U e,U f]] w (Rn (.bool v) w):=by
 subst h;exact qkp a0 a1 a2 a3 c d e f w
variable {b:Nat} {a:Option Addr}
theorem qbx {tmps:Array Value} {w:World} {x0 x1 x2 x3 d e f g ev:Int} {n c:Nat} (h:qd w b (T9 x0 x1 x2 x3 d e f g a n c)) (i:tmps[8]?=some (PP b)) (j:tmps[9]?=some (U ev)):
 (results Tryz.f127 tmps).run Tryz.prog w=.ok (.tuple #[.agg (List.toArray (T9 x0 x1 x2 x3 d e f g a n c)),U ev]) w:=by
 obtain⟨k,l,m,o,p,q,r,s,t⟩:=h.c9;simp[results,Tryz.results127,go_sem,i,j,k,l,m,o,p,q,r,s,t]
def qre (w:World) (b:Nat) (lv wv sv:Value) (S:qe) (log waits:List TxM) (now d0 d1 d2 d3:Int) (ws:List Wr) (e:Ending) (w':World):Prop:=
 (ji S log.length now d0 d1 d2 d3 ws≠0/\e=.returned (.tuple #[.agg ZA,U (ji S log.length now d0 d1 d2 d3 ws)])/\Bw w w')\/
 (ji S log.length now d0 d1 d2 d3 ws=0/\∃(wa:Option Addr) (wc:Nat) (lv' sv':Value),e=.returned (.tuple #[.agg (txC ⟨zv S now d0 d1 d2 d3 ws,wa,wc⟩).toArray,U 0])/\
    vu w' b lv' wv sv' (vr S (zv S now d0 d1 d2 d3 ws)) (log++[⟨zv S now d0 d1 d2 d3 ws,wa,wc⟩]) waits/\(∀k,qu b lv' wv sv' k->qu b lv wv sv k\/w.heap.size<=k)/\qc (qu b lv wv sv) w w')
theorem qs2 {lv wv sv:Value} {S:qe} {log waits:List TxM} (now d f g i:Int) {cap:Nat} {ws:List Wr} (w:World) (h:vu w b lv wv sv S log waits) (hW:qr w a cap ws) (hne0:ji S log.length now d f g i ws≠0):
 Ca 127 #[PP b,U now,.agg #[U d,U f,U g,U i],.slice a ws.length cap] w (qre w b lv wv sv S log waits now d f g i ws):=by
 obtain⟨la,lc,rfl,hT⟩:=yx h.rlog;have hc1:=hT.len;have hc2:=hT.cap;have k:=(qo.new w 77 d f g i).boxed (.cells ZA 102);have c:qd ((w.alloc (.cells #[U d,U f,U g,U i] 77)).alloc (.cells ZA 102)) (w.heap.size+1) txZ:=qd.new (w:=w.alloc (.cells #[U d,U f,U g,U i] 77)) (T:=102) (n:=w.heap.size+1) ZL (by simp);have j:=boxed (boxed (jcc _ w) (.cells #[U d,U f,U g,U i] 77)) (.cells ZA 102);have WI:=hW.later j;have HH:=hd1 h;have HW:=hd1 hW
 have r:w.heap.size<=w.heap.size+1:=by omega
 have HNE:=hd1 hne0;go_enter Tryz.func127,Tryz.ntmps127
 go_wp2_with fail
 refine(qg7 WI).mono ?_;rintro e w1 ⟨rfl,W⟩;replace k:=k.later W;replace c:=c.later W;replace j:=qa j W;have s:∀(X:World) (ev:Int),ji S log.length now d f g i ws=ev->ev≠0->Bw w X->Hid (qre w b (.slice la log.length lc) wv sv S log waits now d f g i ws (.returned (.tuple #[.agg ZA,U ev])) X):=λX ev Y h2 h3=>.inl ⟨by rw[Y];exact h2,by rw[Y],h3⟩;cases hok:qad ws
 ·have E:Hid (ji S log.length now d f g i ws=1):=by show ji S log.length now d f g i ws=1;unfold ji;rw[if_pos hok]
  have y:=c.cell 0 _ rfl;have p0:=c.free 0 (by simp[txZ]);have z:=c.cell 1 _ rfl;have p1:=c.free 1 (by simp[txZ]);have B:=c.cell 2 _ rfl;have p2:=c.free 2 (by simp[txZ]);have C:=c.cell 3 _ rfl;have p3:=c.free 3 (by simp[txZ]);have D:=c.cell 4 _ rfl;have F:=c.free 4 (by simp[txZ]);have G:=c.cell 5 _ rfl;have H:=c.free 5 (by simp[txZ]);have I:=c.cell 6 _ rfl;have J:=c.free 6 (by simp[txZ]);have K:=c.cell 7 _ rfl;have L:=c.free 7 (by simp[txZ]);have M:=c.cell 8 _ rfl;have N:=c.free 8 (by simp[txZ]);have m:=yz c rfl 0 0 0 0 0 0 0 0 (.slice none 0 0);have o:=qd9 j r 0 0 0 0 0 0 0 0 (.slice none 0 0);have p:=s _ 1 E.out (by decide) o
  go_wp2_with fail
  exact bodyPost_ret (qbx m rfl rfl) rfl p.out
 have O:=hd1 hok;have t:=hd1 (HH.out.later j);have c0:=qb.cell k.c0;have c1:=qb.cell k.c1;have c2:=qb.cell k.c2;have c3:=qb.cell k.c3;have k1:=qb.cell (t.out.box.cell 1 _ rfl);have k2:=qb.cell (t.out.box.cell 2 _ rfl);have k3:=qb.cell (t.out.box.cell 3 _ rfl);have k4:=qb.cell (t.out.box.cell 4 _ rfl);cases hv:jb d f g i
 ·have q:=hd1 hv
  have E:Hid (ji S log.length now d f g i ws=10):=by show ji S log.length now d f g i ws=10;unfold ji;rw[if_neg (by rw[O.out];decide),if_pos hv]
  go_wp2_with fail
  refine wrl ?_
  repeat (go_big_quiet_step (first|rfl|(go_at_call 178;with_reducible exact qg (qcn q.out _))))
  refine wpQuiet_nil ?_;rintro w2 ⟨⟨_,l⟩,rfl⟩;replace c:=c.later l;replace j:=qa j l;have y:=c.cell 0 _ rfl;have p0:=c.free 0 (by simp[txZ]);have z:=c.cell 1 _ rfl;have p1:=c.free 1 (by simp[txZ]);have B:=c.cell 2 _ rfl;have p2:=c.free 2 (by simp[txZ]);have C:=c.cell 3 _ rfl;have p3:=c.free 3 (by simp[txZ]);have D:=c.cell 4 _ rfl;have F:=c.free 4 (by simp[txZ]);have G:=c.cell 5 _ rfl;have H:=c.free 5 (by simp[txZ]);have I:=c.cell 6 _ rfl;have J:=c.free 6 (by simp[txZ]);have K:=c.cell 7 _ rfl;have L:=c.free 7 (by simp[txZ]);have M:=c.cell 8 _ rfl;have N:=c.free 8 (by simp[txZ]);have m:=yz c rfl 0 0 0 0 0 0 0 0 (.slice none 0 0);have o:=qd9 j r 0 0 0 0 0 0 0 0 (.slice none 0 0);have p:=s _ 10 E.out (by decide) o
  go_wp2_with fail
  exact bodyPost_ret (qbx m rfl rfl) rfl p.out
 have q:=hd1 hv;cases hc:qa8 S.a0 S.a1 S.a2 S.a3 d f g i
 ·have u:=hd1 hc
  have E:Hid (ji S log.length now d f g i ws=10):=by show ji S log.length now d f g i ws=10;unfold ji;rw[if_neg (by rw[O.out];decide),if_neg (by rw[q.out];decide),if_pos hc]
  go_wp2_with fail
  refine wrl ?_
  repeat (go_big_quiet_step (first|rfl|(go_at_call 178;with_reducible exact qg (qcn q.out _))|(go_at_call 77;with_reducible exact qg (yo u.out _))))
  refine wpQuiet_nil ?_;rintro w2 ⟨⟨_,l⟩,rfl⟩;replace c:=c.later l;replace j:=qa j l;have y:=c.cell 0 _ rfl;have p0:=c.free 0 (by simp[txZ]);have z:=c.cell 1 _ rfl;have p1:=c.free 1 (by simp[txZ]);have B:=c.cell 2 _ rfl;have p2:=c.free 2 (by simp[txZ]);have C:=c.cell 3 _ rfl;have p3:=c.free 3 (by simp[txZ]);have D:=c.cell 4 _ rfl;have F:=c.free 4 (by simp[txZ]);have G:=c.cell 5 _ rfl;have H:=c.free 5 (by simp[txZ]);have I:=c.cell 6 _ rfl;have J:=c.free 6 (by simp[txZ]);have K:=c.cell 7 _ rfl;have L:=c.free 7 (by simp[txZ]);have M:=c.cell 8 _ rfl;have N:=c.free 8 (by simp[txZ]);have m:=yz c rfl 0 0 0 0 0 0 0 0 (.slice none 0 0);have o:=qd9 j r 0 0 0 0 0 0 0 0 (.slice none 0 0);have p:=s _ 10 E.out (by decide) o
  go_wp2_with fail
  exact bodyPost_ret (qbx m rfl rfl) rfl p.out
 have u:=hd1 hc
 go_wp2_with fail
 refine wrl ?_
 repeat (go_big_quiet_step (first|rfl|(go_at_call 178;with_reducible exact qg (qcn q.out _))|(go_at_call 77;with_reducible exact qg (yo u.out _))))
 refine wpQuiet_nil ?_;rintro w2 ⟨⟨_,l⟩,rfl⟩;replace c:=c.later l;replace k:=k.later l;replace j:=qa j l;have P:=hd1 (t.out.later l);have s7:=P.out.box.cell 7 _ rfl;by_cases hn:200<=log.length
 ·have E:Hid (ji S log.length now d f g i ws=12):=by show ji S log.length now d f g i ws=12;unfold ji;rw[if_neg (by rw[O.out];decide),if_neg (by rw[q.out];decide),if_neg (by rw[u.out];decide),if_pos hn]
  have h200:(200:Int)<=(log.length:Int):=by omega
  have y:=c.cell 0 _ rfl;have p0:=c.free 0 (by simp[txZ]);have z:=c.cell 1 _ rfl;have p1:=c.free 1 (by simp[txZ]);have B:=c.cell 2 _ rfl;have p2:=c.free 2 (by simp[txZ]);have C:=c.cell 3 _ rfl;have p3:=c.free 3 (by simp[txZ]);have D:=c.cell 4 _ rfl;have F:=c.free 4 (by simp[txZ]);have G:=c.cell 5 _ rfl;have H:=c.free 5 (by simp[txZ]);have I:=c.cell 6 _ rfl;have J:=c.free 6 (by simp[txZ]);have K:=c.cell 7 _ rfl;have L:=c.free 7 (by simp[txZ]);have M:=c.cell 8 _ rfl;have N:=c.free 8 (by simp[txZ]);have m:=yz c rfl 0 0 0 0 0 0 0 0 (.slice none 0 0);have o:=qd9 j r 0 0 0 0 0 0 0 0 (.slice none 0 0);have p:=s _ 12 E.out (by decide) o
  go_wp2_with fail
  exact bodyPost_ret (qbx m rfl rfl) rfl p.out
 have Z:Hid (ji S log.length now d f g i ws=(qcp S.lw S.lc now).2.2):=by show ji S log.length now d f g i ws=_;unfold ji;rw[if_neg (by rw[O.out];decide),if_neg (by rw[q.out];decide),if_neg (by rw[u.out];decide),if_neg hn]
 have h200:¬(200:Int)<=(log.length:Int):=by omega
 have k5:=P.out.box.cell 5 _ rfl;have k6:=P.out.box.cell 6 _ rfl
 go_wp2_with fail
 refine(qm9 S.lw S.lc now _).mono ?_;rintro e w3 ⟨rfl,Q⟩;replace c:=c.later Q;replace k:=k.later Q;replace j:=qa j Q;have M3:=hd1 (P.out.later Q);obtain⟨⟨R,V,v⟩,aa⟩:∃x,qcp S.lw S.lc now=x:=⟨_,rfl⟩;have HNX:=hd1 aa;rw[aa];rw[aa]at Z;replace c:=c.boxed (.cells #[U R,U V] 79);replace k:=k.boxed (.cells #[U R,U V] 79);replace j:=boxed j (.cells #[U R,U V] 79);have RS:=qd.new (w:=w3) (T:=79) [U R,U V] rfl;by_cases ab:v≠0
 ·have Y:(v==0)=false:=by simp[ab]
  have h2:(v !=0)=true:=by simp[ab]
  have y:=c.cell 0 _ rfl;have p0:=c.free 0 (by simp[txZ]);have z:=c.cell 1 _ rfl;have p1:=c.free 1 (by simp[txZ]);have B:=c.cell 2 _ rfl;have p2:=c.free 2 (by simp[txZ]);have C:=c.cell 3 _ rfl;have p3:=c.free 3 (by simp[txZ]);have D:=c.cell 4 _ rfl;have F:=c.free 4 (by simp[txZ]);have G:=c.cell 5 _ rfl;have H:=c.free 5 (by simp[txZ]);have I:=c.cell 6 _ rfl;have J:=c.free 6 (by simp[txZ]);have K:=c.cell 7 _ rfl;have L:=c.free 7 (by simp[txZ]);have M:=c.cell 8 _ rfl;have N:=c.free 8 (by simp[txZ]);have m:=yz c rfl 0 0 0 0 0 0 0 0 (.slice none 0 0);have o:=qd9 j r 0 0 0 0 0 0 0 0 (.slice none 0 0);have p:=s _ v Z.out (by exact ab) o
  go_wp2_with fail
  exact bodyPost_ret (qbx m rfl rfl) rfl p.out
 have he0:v=0:=by omega
 subst he0;exact absurd Z.out HNE.out
end
section
variable {w:World} {b:Nat} {lv wv sv:Value} {S:qe}
theorem vu.keptB {w':World} {log waits:List TxM} (h:vu w b lv wv sv S log waits) (a:∀k,(qu b lv wv sv k\/∃m∈log++waits,m.blk k)->w'.heap[k]?=w.heap[k]?) (d:w.heap.size<=w'.heap.size):vu w' b lv wv sv S log waits:=
 ⟨h.box.kept (a b (.inl (.inl rfl))) d,qf h.rlog (λk e=>a k (.inl (.inr (.inl e)))),qf h.rwait (λk e=>a k (.inl (.inr (.inr (.inl e))))),qf h.own (λk e=>a k (.inl (.inr (.inr (.inr e))))),h.ok,h.nl,h.nw,h.ns,h.lw,h.ls,h.ws,
   λm c=>⟨(h.hold m c).1.kept (λk e=>a k (.inr ⟨m,c,e⟩)),(h.hold m c).2⟩⟩
def qrd (w:World) (b:Nat) (lv wv sv:Value) (S:qe) (log waits:List TxM) (now d0 d1 d2 d3:Int) (ws:List Wr) (e:Ending) (w':World):Prop:=
 ∃(wa:Option Addr) (wc:Nat) (lv' sv':Value),e=.returned (.tuple #[.agg (txC ⟨zv S now d0 d1 d2 d3 ws,wa,wc⟩).toArray,U 0])/\
  vu w' b lv' wv sv' (vr S (zv S now d0 d1 d2 d3 ws)) (log++[⟨zv S now d0 d1 d2 d3 ws,wa,wc⟩]) waits/\(∀k,qu b lv' wv sv' k->qu b lv wv sv k\/w.heap.size<=k)/\qc (qu b lv wv sv) w w'/\∀k,(⟨zv S now d0 d1 d2 d3 ws,wa,wc⟩:TxM).blk k->w.heap.size<=k
variable {ws:List Wr}
theorem qqs {r l:World} {g n:Nat} {s t:Value} {log waits:List TxM} {now x y z A x0 x1 x2 x3 a c d f:Int} (h:vu w b lv wv sv S log waits) (E:Bw w r) (J:w.heap.size+1<r.heap.size)
 (F:vu l b s wv t (vr S ⟨x0,x1,x2,x3,a,c,d,f,ws⟩) (log++[⟨⟨x0,x1,x2,x3,a,c,d,f,ws⟩,some (AD g 0),n⟩]) waits) (B:∀k,qu b s wv t k->qu b lv wv sv k\/r.heap.size<=k) (G:qc (qu b lv wv sv) r l) (K:w.heap.size+1<g)
 (C:zv S now x y z A ws=⟨x0,x1,x2,x3,a,c,d,f,ws⟩):
 Hid (qrd w b lv wv sv S log waits now x y z A ws (.returned (.tuple #[.agg (List.toArray (T9 x0 x1 x2 x3 a c d f (PT g) ws.length n)),U 0])) (js l (w.heap.size+1) x0 x1 x2 x3 a c d f (.slice (PT g) ws.length n))):=by
 have H:∀k,k≠w.heap.size+1->(js l (w.heap.size+1) x0 x1 x2 x3 a c d f (.slice (PT g) ws.length n)).heap[k]?=l.heap[k]?:=λk i=>qiu i x0 x1 x2 x3 a c d f _
 have L:(js l (w.heap.size+1) x0 x1 x2 x3 a c d f (.slice (PT g) ws.length n)).heap.size=l.heap.size:=by simp only[js,World.setCell,Array.size_modify]
 have I:=q2r ((qc.ofBelow E).more G (λk i=>.inl i)) (Nat.le_succ w.heap.size) x0 x1 x2 x3 a c d f (.slice (PT g) ws.length n)
 generalize js l (w.heap.size+1) x0 x1 x2 x3 a c d f (.slice (PT g) ws.length n)=W at*
 refine⟨some (AD g 0),n,s,t,by rw[C];rfl,?_,λk i=>(B k i).imp id (λe=>by omega),I,λk i=>by
  obtain⟨_,o,j⟩:=i;injection j with j;injection j with j e2
  omega⟩
 rw[C];refine F.keptB (λk i=>H k (λe=>?_)) (by omega);rcases i with p|⟨m,u,p⟩
 ·rcases B k p with q|q
  ·have:=h.lt k q;omega
  omega
 have D:∀m∈log++waits,m.blk k->False:=λm u p=>by
  have:=(h.hold m u).1.blk_lt k p;omega
 rcases jcf.1 u with q|q
 ·rcases jcf.1 q with v|v
  ·exact D m (jcf.2 (.inl v)) p
  rw[jcj.1 v]at p;obtain⟨_,o,j⟩:=p;injection j with j;injection j with j e2;omega
 exact D m (jcf.2 (.inr q)) p
theorem qqv {log waits:List TxM} (now G H I J:Int) {a:Option Addr} {cap:Nat} (w:World) (h:vu w b lv wv sv S log waits) (hI:j3 S) (hlog:log.length=S.log.length) (hW:qr w a cap ws) (hX:∀k L,ws≠[]->a=some (AD k L)->¬qu b lv wv sv k) (hE0:ji S log.length now G H I J ws=0):
 Ca 127 #[PP b,U now,.agg #[U G,U H,U I,U J],.slice a ws.length cap] w (qrd w b lv wv sv S log waits now G H I J ws):=by
 obtain⟨la,lc,rfl,hT⟩:=yx h.rlog;have hc1:=hT.len;have hc2:=hT.cap;have z:=(qo.new w 77 G H I J).boxed (.cells ZA 102);have E:qd ((w.alloc (.cells #[U G,U H,U I,U J] 77)).alloc (.cells ZA 102)) (w.heap.size+1) txZ:=qd.new (w:=w.alloc (.cells #[U G,U H,U I,U J] 77)) (T:=102) (n:=w.heap.size+1) ZL (by simp);have C:=boxed (boxed (jcc _ w) (.cells #[U G,U H,U I,U J] 77)) (.cells ZA 102);have WI:=hW.later C;have HH:=hd1 h;have HW:=hd1 hW
 have hB:w.heap.size<=w.heap.size+1:=by omega
 obtain⟨z1,z2,z3,z4,z5⟩:=qip hE0;have HOK:=hd1 z1;have HV:=hd1 z2;have HC:=hd1 z3;have HN5:=hd1 z5;have HE:=hd1 hE0
 have h200:¬(200:Int)<=(log.length:Int):=by omega
 have HI:=hd1 hI;have aa:=hI.id0;have ac:=hI.id3;go_enter Tryz.func127,Tryz.ntmps127
 go_wp2_with fail
 refine(qg7 WI).mono ?_;rintro e w1 ⟨rfl,hb1⟩;replace z:=z.later hb1;replace E:=E.later hb1;replace C:=qa C hb1;rw[HOK.out];have M1:=hd1 (HH.out.later C);have c0:=qb.cell z.c0;have c1:=qb.cell z.c1;have c2:=qb.cell z.c2;have c3:=qb.cell z.c3;have k1:=qb.cell (M1.out.box.cell 1 _ rfl);have k2:=qb.cell (M1.out.box.cell 2 _ rfl);have k3:=qb.cell (M1.out.box.cell 3 _ rfl);have k4:=qb.cell (M1.out.box.cell 4 _ rfl)
 go_wp2_with fail
 refine wrl ?_
 repeat (go_big_quiet_step (first|rfl|(go_at_call 178;with_reducible exact qg (qcn HV.out _))|(go_at_call 77;with_reducible exact qg (yo HC.out _))))
 refine wpQuiet_nil ?_;rintro w2 ⟨⟨_,hb2⟩,rfl⟩;replace E:=E.later hb2;replace z:=z.later hb2;replace C:=qa C hb2;have M2:=hd1 (M1.out.later hb2);have s7:=M2.out.box.cell 7 _ rfl;have k5:=M2.out.box.cell 5 _ rfl;have k6:=M2.out.box.cell 6 _ rfl
 go_wp2_with fail
 refine(qm9 S.lw S.lc now _).mono ?_;rintro e w3 ⟨rfl,hb3⟩;have M3:=hd1 (M2.out.later hb3);obtain⟨⟨f,i,ne⟩,hnx⟩:∃x,qcp S.lw S.lc now=x:=⟨_,rfl⟩;have HNX:=hd1 hnx
 have hne:ne=0:=by have:=HN5.out;rw[hnx]at this;exact this
 rw[hnx];subst hne;have HSZ:=hd1 ((E.later hb3).lt);replace E:=(E.later hb3).boxed (.cells #[U f,U i] 79);replace z:=(z.later hb3).boxed (.cells #[U f,U i] 79);replace C:=boxed (qa C hb3) (.cells #[U f,U i] 79);have RS:=qd.new (w:=w3) (T:=79) [U f,U i] rfl;have M4:Hid (vu (w3.alloc (.cells #[U f,U i] 79)) b (.slice la log.length lc) wv sv S log waits):=M3.out.later (boxed (jcc _ w3) _);obtain⟨D,hD⟩:∃D,qp S.id S.a0 S.a1 S.a2 S.a3=D:=⟨_,rfl⟩;have hd:=HI.out.dep S.id;rw[hD]at hd;have hwr:=qpd hd.1 hd.2
 have HCT0:zv S now G H I J ws=⟨S.id,D+1,f,i,qch S.id D G,qcl S.id D H,qck S.id D I,qcj S.id D J,ws⟩:=by unfold zv;rw[hD,HNX.out]
 go_wp2_with fail
 obtain⟨W4,hW4⟩:∃W4,w3.alloc (.cells #[U f,U i] 79)=W4:=⟨_,rfl⟩;rw[hW4]at E z C RS M4 ⊢;have k0:=qb.cell (M4.out.box.cell 0 _ rfl);have ks:=qb.cell (qkc M4.out.box aa ac);rw[hD]at ks
 have hi4:S.id<4:=by omega
 have HD:=hd1 hD;have HFT:=hd1 HH.out.lt
 have nb:b≠w.heap.size:=by have:=HFT.out b (.inl rfl);omega
 refine wrl ?_
 repeat (go_big_quiet_step (first|rfl|fail))
 refine wpQuiet_nil ?_;rintro W5 ⟨⟨_,hb5⟩,rfl⟩;replace E:=E.later hb5;replace z:=z.later hb5;replace RS:=RS.later hb5;replace C:=qa C hb5;have M5:=hd1 (M4.out.later hb5);have k0:=M5.out.box.cell 0 _ rfl;have v1:=qk9 z aa ac;have v2:=qwc z aa ac
 go_wp2_with fail
 have Y:=q0b z aa ac D;have RT6:=E.far (AD w.heap.size S.id.toNat) (U D) (by simp);have RS6:=RS.far (AD w.heap.size S.id.toNat) (U D) (by have:=HSZ.out;simp only;omega);have hb6:=C.setCell (p:=AD w.heap.size S.id.toNat) (jcd _) (U D);have M6:=hd1 (HH.out.later hb6);have HS6:=hd1 RS6.lt;obtain⟨c,hW6⟩:∃c,W5.setCell (AD w.heap.size S.id.toNat) (U D)=c:=⟨_,rfl⟩;rw[hW6]at Y RT6 RS6 hb6 M6 HS6 ⊢;obtain⟨t,he0⟩:∃x,qch S.id D G=x:=⟨_,rfl⟩;obtain⟨r,he1⟩:∃x,qcl S.id D H=x:=⟨_,rfl⟩;obtain⟨s,he2⟩:∃x,qck S.id D I=x:=⟨_,rfl⟩;obtain⟨v,he3⟩:∃x,qcj S.id D J=x:=⟨_,rfl⟩;rw[he0,he1,he2,he3]at Y HCT0;have HCT:=hd1 HCT0;have Y0:=λ(w':World) (h:Bw c w')=>cell_later h (M6.out.box.cell 0 _ rfl);have Y2:=λ(w':World) (h:Bw c w')=>cell_later h (RS6.cell 0 _ rfl);have Y3:=λ(w':World) (h:Bw c w')=>cell_later h (RS6.cell 1 _ rfl);have Y4:=λ(w':World) (h:Bw c w')=>cell_later h Y.c0;have Y5:=λ(w':World) (h:Bw c w')=>cell_later h Y.c1;have Y6:=λ(w':World) (h:Bw c w')=>cell_later h Y.c2;have Y7:=λ(w':World) (h:Bw c w')=>cell_later h Y.c3;have hb60:=(jcc c.heap.size c).drew
 obtain⟨R,L,haa,hcc⟩:∃R L,a=some (AD R L)/\qbo c R L ws:=by
  rcases(HW.out.later hb6).held with h0|h0
  ·exfalso
   have:=HOK.out;rw[h0]at this;simp[qad,inB]at this
  exact h0
 have K:Hid (1<=ws.length/\ws.length<=5):=by
  have h1:=HOK.out;simp only[qad,jct,jk]at h1;show _/\_;omega
 have HNW:Hid (∀W,Bw c W->∀j u,(qcf ws)[j]?=some u->W.cell? (((AD R L):Addr).add j)=some u):=λW hW=>qsc (hcc.later hW);subst haa
 have hw2:IntKind.i64.wrap (D+1)=D+1:=by rw[<-qpd hd.1 hd.2];unfold wrap64 IntKind.wrap;simp[IntKind.signed,IntKind.bits];omega
 obtain⟨i0,hi,hz0,hz1,hz2⟩:=info_parts qmn
 go_region_held3 (λw'=>Bw c w') (repeat (first|(with_reducible assumption)|(with_reducible exact jcc _ _)|(with_reducible refine boxed ?_ _)|(with_reducible refine jc6 ?_)|(refine jdz ?_ (by first|(with_reducible exact jcd _)|(simp)) _)))
  (first
    |(refine step_append_lies _ rfl (.tmp 74) (.tmp 75) 88 rfl 0 100 i0 (.agg #[U 0,.string ⟨#[]⟩,.bool false]) 3 32 Tryz.underlying88 hi hz0 hz1 hz2 rfl (by decide) (.slice (PT c.heap.size) 0 0) 0 [] (by simp[Act.eval]) (qjq c 100 rfl 0 (jcw _)) (AD R L) ws.length cap (qcf ws) (by simp[Act.eval]) (qdt ws) (HNW.out _ (by repeat (first|(with_reducible assumption)|(with_reducible exact jcc _ _)|(with_reducible refine boxed ?_ _)|(with_reducible refine jc6 ?_)))) (qji ws) (by have:=K.out;omega) (by have:=K.out;simp only[maxLen];omega) (by have:=K.out;omega) (by simp) _ rfl ?_;intro g q B ownE V egE ltE;have P:=jd0 (by repeat (first|(with_reducible assumption)|(with_reducible exact jcc _ _)|(with_reducible refine boxed ?_ _)|(with_reducible refine jc6 ?_))) V (by simp<;>omega) (λj hj=>by simp[Value.ownBlock]at hj<;>omega);have X:=hd2 (show c.heap.size<=g from by rcases egE with h|h<;>simp[Value.ownBlock]at h<;>omega) ltE)
    |(refine step_append_lies _ rfl (.tmp 74) (.tmp 75) 88 rfl 0 100 i0 (.agg #[U 0,.string ⟨#[]⟩,.bool false]) 3 32 Tryz.underlying88 hi hz0 hz1 hz2 rfl (by decide) (.slice (PT (c.heap.size+1)) 0 0) 0 [] (by simp[Act.eval]) (qjq (c.alloc (.cells ZA 102)) (n:=c.heap.size+1) 100 (by simp) 0 (jcw _)) (AD R L) ws.length cap (qcf ws) (by simp[Act.eval]) (qdt ws) (HNW.out _ (by repeat (first|(with_reducible assumption)|(with_reducible exact jcc _ _)|(with_reducible refine boxed ?_ _)|(with_reducible refine jc6 ?_)))) (qji ws) (by have:=K.out;omega) (by have:=K.out;simp only[maxLen];omega) (by have:=K.out;omega) (by simp) _ rfl ?_;intro g q B ownE V egE ltE;have P:=jd0 (by repeat (first|(with_reducible assumption)|(with_reducible exact jcc _ _)|(with_reducible refine boxed ?_ _)|(with_reducible refine jc6 ?_))) V (by simp<;>omega) (λj hj=>by simp[Value.ownBlock]at hj<;>omega);have X:=hd2 (show c.heap.size+1<=g from by rcases egE with h|h<;>simp[Value.ownBlock]at h<;>omega) ltE;have d:=(((qd.new (w:=c) (T:=102) ZL rfl).boxed (.cells #[] 100)).drew).grown V (λe=>by simp[Value.ownBlock]at e<;>omega);have y0:=d.cell 0 _ rfl;have zz0:=d.free 0 (by simp);have y1:=d.cell 1 _ rfl;have zz1:=d.free 1 (by simp);have y2:=d.cell 2 _ rfl;have zz2:=d.free 2 (by simp);have y3:=d.cell 3 _ rfl;have zz3:=d.free 3 (by simp);have y4:=d.cell 4 _ rfl;have zz4:=d.free 4 (by simp);have y5:=d.cell 5 _ rfl;have zz5:=d.free 5 (by simp);have y6:=d.cell 6 _ rfl;have zz6:=d.free 6 (by simp);have y7:=d.cell 7 _ rfl;have zz7:=d.free 7 (by simp);have y8:=d.cell 8 _ rfl;have zz8:=d.free 8 (by simp))
    |(refine step_append_lies _ rfl (.tmp 74) (.tmp 75) 88 rfl 0 100 i0 (.agg #[U 0,.string ⟨#[]⟩,.bool false]) 3 32 Tryz.underlying88 hi hz0 hz1 hz2 rfl (by decide) (.slice (PT c.heap.size) 0 0) 0 [] (by simp[Act.eval]) ((qjq c 100 rfl 0 (jcw _)).alloc (.cells ZA 102)) (AD R L) ws.length cap (qcf ws) (by simp[Act.eval]) (qdt ws) (HNW.out _ (by repeat (first|(with_reducible assumption)|(with_reducible exact jcc _ _)|(with_reducible refine boxed ?_ _)|(with_reducible refine jc6 ?_)))) (qji ws) (by have:=K.out;omega) (by have:=K.out;simp only[maxLen];omega) (by have:=K.out;omega) (by simp) _ rfl ?_;intro g q B ownE V egE ltE;have P:=jd0 (by repeat (first|(with_reducible assumption)|(with_reducible exact jcc _ _)|(with_reducible refine boxed ?_ _)|(with_reducible refine jc6 ?_))) V (by simp<;>omega) (λj hj=>by simp[Value.ownBlock]at hj<;>omega);have X:=hd2 (show (g=c.heap.size\/c.heap.size+1<g)from by rcases egE with h|h<;>simp[Value.ownBlock]at h<;>omega) ltE;have d:=((qd.new (w:=c.alloc (.cells #[] 100)) (T:=102) (n:=c.heap.size+1) ZL (by simp)).drew).grown V (λe=>by simp[Value.ownBlock]at e<;>omega);have y0:=d.cell 0 _ rfl;have zz0:=d.free 0 (by simp);have y1:=d.cell 1 _ rfl;have zz1:=d.free 1 (by simp);have y2:=d.cell 2 _ rfl;have zz2:=d.free 2 (by simp);have y3:=d.cell 3 _ rfl;have zz3:=d.free 3 (by simp);have y4:=d.cell 4 _ rfl;have zz4:=d.free 4 (by simp);have y5:=d.cell 5 _ rfl;have zz5:=d.free 5 (by simp);have y6:=d.cell 6 _ rfl;have zz6:=d.free 6 (by simp);have y7:=d.cell 7 _ rfl;have zz7:=d.free 7 (by simp);have y8:=d.cell 8 _ rfl;have zz8:=d.free 8 (by simp)))
 focus
  have W0:=qjn ownE;have F:=qd.new (w:=B) (T:=102) (T9 S.id (D+1) f i t r s v (PT g) ws.length q) rfl;have M:=boxed P (.cells (List.toArray (T9 S.id (D+1) f i t r s v (PT g) ws.length q)) 102);have Z:=W0.later (boxed (jcc _ B) (.cells (List.toArray (T9 S.id (D+1) f i t r s v (PT g) ws.length q)) 102));obtain⟨N,O⟩:∃N,B.alloc (.cells (List.toArray (T9 S.id (D+1) f i t r s v (PT g) ws.length q)) 102)=N:=⟨_,rfl⟩;rw[O]at F M Z ⊢;obtain⟨xb,Q⟩:∃x,B.heap.size=x:=⟨_,rfl⟩;have HQX:Hid (c.heap.size<=g/\c.heap.size<=xb):=⟨by have:=X.out;omega,by rw[<-Q];first|exact P.size|omega⟩;rw[Q]at F ⊢
 rotate_left
 focus
  have W0:=qjn ownE;have F:=yz d rfl S.id (D+1) f i t r s v (.slice (PT g) ws.length q);have M:Bw c (js B (c.heap.size+1) S.id (D+1) f i t r s v (.slice (PT g) ws.length q)):=qd9 P (Nat.le_succ _) S.id (D+1) f i t r s v (.slice (PT g) ws.length q);have Z:qr (js B (c.heap.size+1) S.id (D+1) f i t r s v (.slice (PT g) ws.length q)) (PT g) q ws:=qr.kept (m:=⟨⟨S.id,D+1,f,i,t,r,s,v,ws⟩,some (AD g 0),q⟩) (w:=B) W0 (λk e=>qiu (by obtain⟨_,o,e⟩:=e;injection e with e;injection e with e;have:=X.out;omega) S.id (D+1) f i t r s v (.slice (PT g) ws.length q));obtain⟨N,O⟩:∃N,js B (c.heap.size+1) S.id (D+1) f i t r s v (.slice (PT g) ws.length q)=N:=⟨_,rfl⟩;rw[O]at F M Z;simp only[js]at O;rw[O];obtain⟨xb,Q⟩:∃x,c.heap.size+1=x:=⟨_,rfl⟩;have HQX:Hid (c.heap.size<=g/\c.heap.size<=xb):=⟨by have:=X.out;omega,by rw[<-Q];first|exact P.size|omega⟩;rw[Q]at F ⊢
 rotate_left
 focus
  have W0:=qjn ownE;have F:=yz d rfl S.id (D+1) f i t r s v (.slice (PT g) ws.length q);have M:=qd9 P (jcd _) S.id (D+1) f i t r s v (.slice (PT g) ws.length q);have Z:qr (js B c.heap.size S.id (D+1) f i t r s v (.slice (PT g) ws.length q)) (PT g) q ws:=qr.kept (m:=⟨⟨S.id,D+1,f,i,t,r,s,v,ws⟩,some (AD g 0),q⟩) (w:=B) W0 (λk e=>qiu (by obtain⟨_,o,e⟩:=e;injection e with e;injection e with e;have:=X.out;omega) S.id (D+1) f i t r s v (.slice (PT g) ws.length q));obtain⟨N,O⟩:∃N,js B c.heap.size S.id (D+1) f i t r s v (.slice (PT g) ws.length q)=N:=⟨_,rfl⟩;rw[O]at F M Z;simp only[js]at O;rw[O];obtain⟨xb,Q⟩:∃x,c.heap.size=x:=⟨_,rfl⟩;have HQX:Hid (c.heap.size<=g/\c.heap.size<=xb):=⟨by have:=X.out;omega,by rw[<-Q];first|exact P.size|omega⟩;rw[Q]at F ⊢
 rotate_left
 all_goals
  have RTF:=RT6.later M;have MF:=M6.out.later M;have HSF:=hd1 RT6.lt;have HBW:=hd1 (qa hb6 M);have HLG:=hd1 hlog
  have HSL:Hid (S.l.length+ws.length<=1000/\log.length<=1000):=by
   have q1:=HI.out.len;have q2:=K.out;have q3:=HLG.out
   have q4:log.length<200:=by omega
   show _/\_;omega
  have nfx:∀k,w.heap.size<=k->¬qu b (.slice la log.length lc) wv sv k:=λk hk hf=>by
   have:=HFT.out k hf;omega
  have AP:=qj3 ⟨⟨S.id,D+1,f,i,t,r,s,v,ws⟩,some (AD g 0),q⟩ N MF ⟨Z,λk e hf=>by
   obtain⟨_,o,e⟩:=e;injection e with e;injection e with r s;have q1:=HQX.out.1;have q2:=HFT.out k hf;have q3:=HSF.out
   omega⟩ aa ac HSL.out.1 HSL.out.2
  have HNF:=hd1 nfx;obtain⟨x0,x1,x2,x3,x4,x5,x6,x7,x8⟩:=F.c9
  go_wp2_with fail
  refine AP.mono ?_;rintro e w9 ⟨rfl,lv',sv',M9,nf9,tt9⟩;have RX9:=F.kept (tt9.block _ F.lt (HNF.out _ (by have:=HQX.out.2;have:=HSF.out;omega))) tt9.size;have y:=RTF.kept (tt9.block _ RTF.lt (HNF.out _ (by omega))) tt9.size;have FIN:=qqs HH.out HBW.out (by have:=HSF.out;have:=M.size;omega) M9 nf9 tt9 (by have:=HQX.out.1;have:=HSF.out;omega) HCT.out;obtain⟨x0,x1,x2,x3,x4,x5,x6,x7,x8⟩:=RX9.c9;have r0:=y.cell 0 _ rfl;have p0:=y.free 0 (by simp[txZ]);have r1:=y.cell 1 _ rfl;have p1:=y.free 1 (by simp[txZ]);have r2:=y.cell 2 _ rfl;have p2:=y.free 2 (by simp[txZ]);have r3:=y.cell 3 _ rfl;have p3:=y.free 3 (by simp[txZ]);have r4:=y.cell 4 _ rfl;have p4:=y.free 4 (by simp[txZ]);have r5:=y.cell 5 _ rfl;have p5:=y.free 5 (by simp[txZ]);have r6:=y.cell 6 _ rfl;have p6:=y.free 6 (by simp[txZ]);have r7:=y.cell 7 _ rfl;have p7:=y.free 7 (by simp[txZ]);have r8:=y.cell 8 _ rfl;have p8:=y.free 8 (by simp[txZ]);have RZF:=yz y rfl S.id (D+1) f i t r s v (.slice (PT g) ws.length q)
  go_wp2_with fail
  exact bodyPost_ret (qbx RZF rfl rfl) rfl FIN.out
end
theorem qpf (i b wall j c d f g:Int) (a:Option Addr) (cap:Nat) (l:List Wr) (w:World) (m:qr w a cap l):
 Ca 128 #[.agg (List.toArray (T9 i b wall j c d f g a l.length cap))] w (Rn (.bool (jt i b wall j c d f g l)) w):=by
 have D:=qb.one;have x:=m.later (boxed (jcc _ w) (.cells (List.toArray (T9 i b wall j c d f g a l.length cap)) 102));clear m
 have n:(w.alloc (.cells (List.toArray (T9 i b wall j c d f g a l.length cap)) 102)).cell? (AD w.heap.size 0)=some (U i):=by go_simp
 have o:(w.alloc (.cells (List.toArray (T9 i b wall j c d f g a l.length cap)) 102)).cell? (AD w.heap.size 1)=some (U b):=by go_simp
 have p:(w.alloc (.cells (List.toArray (T9 i b wall j c d f g a l.length cap)) 102)).cell? (AD w.heap.size 2)=some (U wall):=by go_simp
 have q:(w.alloc (.cells (List.toArray (T9 i b wall j c d f g a l.length cap)) 102)).cell? (AD w.heap.size 3)=some (U j):=by go_simp
 have r:(w.alloc (.cells (List.toArray (T9 i b wall j c d f g a l.length cap)) 102)).cell? (AD w.heap.size 4)=some (U c):=by go_simp
 have s:(w.alloc (.cells (List.toArray (T9 i b wall j c d f g a l.length cap)) 102)).cell? (AD w.heap.size 5)=some (U d):=by go_simp
 have t:(w.alloc (.cells (List.toArray (T9 i b wall j c d f g a l.length cap)) 102)).cell? (AD w.heap.size 6)=some (U f):=by go_simp
 have u:(w.alloc (.cells (List.toArray (T9 i b wall j c d f g a l.length cap)) 102)).cell? (AD w.heap.size 7)=some (U g):=by go_simp
 have v:(w.alloc (.cells (List.toArray (T9 i b wall j c d f g a l.length cap)) 102)).cell? (AD w.heap.size 8)=some (.slice a l.length cap):=by go_simp
 replace n:=qb.cell n;replace o:=qb.cell o;replace p:=qb.cell p;replace q:=qb.cell q;replace r:=qb.cell r;replace s:=qb.cell s;replace t:=qb.cell t;replace u:=qb.cell u;replace v:=qb.cell v;cases p1:inB i 0 3;rw[show jt i b wall j c d f g l=false by simp[jt,p1]]
 rotate_left
 cases p2:inB b 1 1099511627776;rw[show jt i b wall j c d f g l=false by simp[jt,p2]]
 rotate_left
 cases p3:(qi wall&&qi j);rw[show jt i b wall j c d f g l=false by simp only[jt,p3,Bool.and_false,Bool.false_and]]
 rotate_left
 cases p4:jb c d f g;rw[show jt i b wall j c d f g l=false by simp only[jt,p4,Bool.and_false,Bool.false_and]]
 rotate_left
 have y:=jk.1 p1;have z:=jk.1 p2
 have e:jt i b wall j c d f g l=(decide (qp i c d f g=b-1)&&qad l):=by simp only[jt,p1,p2,p3,p4,Bool.and_true,Bool.true_and]
 rw[e];clear e
 have B:i=0\/i=1\/i=2\/i=3:=by omega
 obtain⟨E,F⟩:=z;clear y;rcases B with rfl|rfl|rfl|rfl;by_cases h:c=b-1
 have k:(c==b-1)=true:=by simp[h]
 rw[show (decide (qp 0 c d f g=b-1)&&qad l)=qad l by simp[qp,h]];clear h
 rotate_left
 have k:(c==b-1)=false:=by simp[h]
 rw[show (decide (qp 0 c d f g=b-1)&&qad l)=false by simp[qp,h]];clear h
 rotate_left
 by_cases h:d=b-1
 have k:(d==b-1)=true:=by simp[h]
 rw[show (decide (qp 1 c d f g=b-1)&&qad l)=qad l by simp[qp,h]];clear h
 rotate_left
 have k:(d==b-1)=false:=by simp[h]
 rw[show (decide (qp 1 c d f g=b-1)&&qad l)=false by simp[qp,h]];clear h
 rotate_left
 by_cases h:f=b-1
 have k:(f==b-1)=true:=by simp[h]
 rw[show (decide (qp 2 c d f g=b-1)&&qad l)=qad l by simp[qp,h]];clear h
 rotate_left
 have k:(f==b-1)=false:=by simp[h]
 rw[show (decide (qp 2 c d f g=b-1)&&qad l)=false by simp[qp,h]];clear h
 rotate_left
 by_cases h:g=b-1
 have k:(g==b-1)=true:=by simp[h]
 rw[show (decide (qp 3 c d f g=b-1)&&qad l)=qad l by simp[qp,h]];clear h
 rotate_left
 have k:(g==b-1)=false:=by simp[h]
 rw[show (decide (qp 3 c d f g=b-1)&&qad l)=false by simp[qp,h]];clear h
 all_goals
  go_enter Tryz.func128,Tryz.ntmps128
  go_wp2_with fail
  refine wrl ?_
  repeat (go_big_quiet_step (first|(go_at_call 28;with_reducible exact qg (vj p1 _))|(go_at_call 28;with_reducible exact qg (vj p2 _))|(go_at_call 180;with_reducible exact qg (qg5 p3 _))|(go_at_call 178;with_reducible exact qg (qcn p4 _))|(go_at_call 177;exact qg (qg7 (qr.later (qb.below _) x)))))
  refine wpQuiet_nil ?_;rintro G ⟨⟨_,C⟩,rfl⟩
  go_wp2
  go_ret;exact⟨rfl,qa (boxed (jcc _ _) _) C⟩
section
def qdn (w:World) (F:Nat->Option Obj) (log:List TxM):Prop:=∀k o,F k=some o->w.heap[k]?=some o/\∃m∈log,m.blk k
variable {w w':World} {F:Nat->Option Obj}
theorem qdn.to {log a:List TxM} (h:qdn w F log) (f:∀m∈log,∀k,m.blk k->w'.heap[k]?=w.heap[k]?) (g:∀m∈log,m∈a):qdn w' F a:=λk o e=>by
 obtain⟨i,m,c,d⟩:=h k o e;exact⟨(f m c k d).trans i,m,g m c,d⟩
variable {b:Nat} {lv wv sv:Value} {S:qe}
theorem qdn.touch {log a waits:List TxM} (h:qdn w F log) (c:vu w b lv wv sv S log waits) (d:qc (qu b lv wv sv) w w') (f:∀m∈log,m∈a):qdn w' F a:=
 h.to (λm g k e=>have q:=c.hold m (jcf.2 (.inl g));d.block k (q.1.blk_lt k e) (q.2 k e)) f
theorem qdn.later {log waits:List TxM} (h:qdn w F log) (a:vu w b lv wv sv S log waits) (c:Bw w w'):qdn w' F log:=h.touch a (qc.ofBelow c) (λ_ d=>d)
def RS (w:World) (b:Nat) (G:Nat->Prop) (F:Nat->Option Obj) (S:qe):Prop:=
 ∃lv wv sv log waits,vu w b lv wv sv S log waits/\log.map (·.t)=S.log/\waits.map (·.t)=S.waits/\(∀k,G k↔(qu b lv wv sv k\/∃m∈log++waits,m.blk k))/\qdn w F log
variable {G:Nat->Prop}
theorem RS.lt (h:RS w b G F S):∀k,G k->k<w.heap.size:=by
 obtain⟨lv,wv,sv,log,waits,h,_,_,c,_⟩:=h;intro k d;rcases(c k).1 d with a|⟨m,e,a⟩
 ·exact h.lt k a
 exact(h.hold m e).1.blk_lt k a
theorem RS.kept (h:RS w b G F S) (d:∀k,G k->w'.heap[k]?=w.heap[k]?) (f:w.heap.size<=w'.heap.size):RS w' b G F S:=by
 obtain⟨lv,wv,sv,log,waits,h,g,i,a,j⟩:=h;exact⟨lv,wv,sv,log,waits,h.keptB (λk e=>d k ((a k).2 e)) f,g,i,a,j.to (λm c k e=>d k ((a k).2 (.inr ⟨m,jcf.2 (.inl c),e⟩))) (λ_ c=>c)⟩
theorem RS.later (h:RS w b G F S) (a:Bw w w'):RS w' b G F S:=h.kept (λk c=>a.block k (h.lt k c)) a.size
def RPo (w:World) (b:Nat) (G:Nat->Prop) (F:Nat->Option Obj) (S':qe) (w':World):Prop:=∃G',RS w' b G' F S'/\(∀k,G' k->G k\/w.heap.size<=k)/\qc G w w'
variable {S':qe}
theorem RPo.trans {a w2:World} {c:Nat->Prop} (d:∀k,c k->G k\/w.heap.size<=k) (e:qc G w a) (h:RPo a b c F S' w2):RPo w b G F S' w2:=by
 obtain⟨g,i,j,l⟩:=h;refine⟨g,i,λk m=>?_,e.more l d⟩;rcases j k m with f|f
 ·exact d k f
 exact .inr (by have:=e.size;omega)
theorem RPo.same (h:RS w b G F S) (a:Bw w w'):RPo w b G F S w':=⟨G,h.later a,λ_ c=>.inl c,qc.ofBelow a⟩
theorem vu.rewait {c:Value} {log waits g:List TxM} (h:vu w b lv wv sv S log waits) (d:∀k,(qu b lv wv sv k\/∃m∈log++waits,m.blk k)->k≠b->wv.ownBlock≠some k->w'.heap[k]?=w.heap[k]?) (v:qd w' b (vz S' lv c sv)) (r:S'.l=S.l)
 (y:w'.ownsRow 0 102 9 c g.length (zw g)) (i:∀k,c.ownBlock=some k->w.heap.size<=k) (z:∀m∈g,m∈waits\/(qr w' m.wa m.wc m.t.ws/\∀k,m.blk k->¬qu b lv wv sv k/\c.ownBlock≠some k)):vu w' b lv c sv S' log g:=by
 have s:∀k,qu b lv c sv k->qu b lv wv sv k\/c.ownBlock=some k:=λk d=>by
  rcases d with a|a|a|a
  ·exact .inl (.inl a)
  ·exact .inl (.inr (.inl a))
  ·exact .inr a
  exact .inl (.inr (.inr (.inr a)))
 have u:∀m∈log++waits,qr w' m.wa m.wc m.t.ws/\∀k,m.blk k->¬qu b lv c sv k:=λm j=>by
  have q:=h.hold m j;refine⟨q.1.kept (λk e=>d k (.inr ⟨m,j,e⟩) (λx=>q.2 k e (.inl x)) (λx=>q.2 k e (.inr (.inr (.inl x))))),λk e n=>?_⟩;rcases s k n with a|a
  ·exact q.2 k e a
  have:=i k a;have:=q.1.blk_lt k e;omega
 refine⟨v,qf h.rlog (λk e=>d k (.inl (.inr (.inl e))) (λx=>h.nl (by rw[<-x];exact e)) (h.lw k e)),y,by rw[r];exact qf h.own (λk e=>d k (.inl (.inr (.inr (.inr e)))) (λx=>h.ns (by rw[<-x];exact e)) (λx=>h.ws k x e)),by rw[r];exact h.ok,h.nl,λe=>?_,h.ns,λk e o=>?_,h.ls,λk e o=>?_,λm j=>?_⟩
 ·have:=i b e;have:=h.box.lt;omega
 ·have:=i k o;have:=(h.rlog.lt k e).2;omega
 ·have:=i k e;have:=(h.own.lt k o).2;omega
 rcases jcf.1 j with a|a
 ·exact u m (jcf.2 (.inl a))
 rcases z m a with f|f
 ·exact u m (jcf.2 (.inr f))
 refine⟨f.1,λk e n=>?_⟩;rcases s k n with p|p
 ·exact(f.2 k e).1 p
 exact(f.2 k e).2 p
end
theorem qp0 (a0 a1 a2 a3 d e f g:Int) (w:World):
 Ca 83 #[.agg #[U a0,U a1,U a2,U a3],.agg #[U d,U e,U f,U g]] w (Rn (.agg #[U (jd a0 d),U (jd a1 e),U (jd a2 f),U (jd a3 g)]) w):=by
 have t:=qb.one;go_enter Tryz.func83,Tryz.ntmps83
 go_wp2
 go_loopw [6] (λi wr=>∃(k:Nat) (z:Int),k<=4/\z=k/\i=U z/\Bw w wr/\qo wr w.heap.size (if 0<k then jd a0 d else a0) (if 1<k then jd a1 e else a1) (if 2<k then jd a2 f else a2) (if 3<k then jd a3 g else a3)/\qo wr (w.heap.size+1) d e f g/\qo wr (w.heap.size+1+1) 0 0 0 0) (λi _=>4-(intOf i).toNat)
 case atStart=>
  have x:=qo.new w 77 a0 a1 a2 a3;have y:=qo.new (w.alloc (.cells #[U a0,U a1,U a2,U a3] 77)) 77 d e f g;have z:=qo.new ((w.alloc (.cells #[U a0,U a1,U a2,U a3] 77)).alloc (.cells #[U d,U e,U f,U g] 77)) 77 0 0 0 0;simp only[jdi]at y z;exact⟨0,0,by omega,rfl,rfl,boxed (boxed (boxed (jcc _ _) _) _) _,(x.later (boxed (jcc _ _) _)).later (boxed (jcc _ _) _),y.later (boxed (jcc _ _) _),z⟩
 obtain⟨k,z,q,m,rfl,j,A,B,R⟩:=hrel
 have r:k=0\/k=1\/k=2\/k=3\/k=4:=by omega
 clear q;rcases r with rfl|rfl|rfl|rfl|rfl
 all_goals simp only[Nat.lt_irrefl,Nat.not_lt_zero,if_true,if_false,Nat.reduceLT]at A
 ·obtain rfl:z=0:=by omega
  clear m
  go_wp2
  have b:=qb.cell A.c0;have c:=qb.cell B.c0;by_cases h:a0<d
  ·refine wrl ?_
   repeat (go_big_quiet_step (fail))
   refine wpQuiet_nil ?_;rintro l ⟨⟨_,a⟩,rfl⟩;replace A:=A.later a;replace B:=B.later a;replace R:=R.later a;clear b c;have n:=A.c0;have o:=B.c0;have p:=A.f0
   go_wp2
   go_roundw
   case rel=>exact⟨1,1,by omega,rfl,by go_num,(qa j a).setCell (by simp) _,by simpa[qia h]using A.set0 d,B.far _ _ (by simp),R.far _ _ (by simp;omega)⟩
   simp[intOf]
  refine wrl ?_
  repeat (go_big_quiet_step (fail))
  refine wpQuiet_nil ?_;rintro l ⟨⟨_,a⟩,rfl⟩;replace A:=A.later a;replace B:=B.later a;replace R:=R.later a;clear b c
  go_wp2
  go_roundw
  case rel=>exact⟨1,1,by omega,rfl,by go_num,qa j a,by simpa[qh1 h]using A,B,R⟩
  simp[intOf]
 ·obtain rfl:z=1:=by omega
  clear m
  go_wp2
  have b:=qb.cell A.c1;have c:=qb.cell B.c1;by_cases h:a1<e
  ·refine wrl ?_
   repeat (go_big_quiet_step (fail))
   refine wpQuiet_nil ?_;rintro l ⟨⟨_,a⟩,rfl⟩;replace A:=A.later a;replace B:=B.later a;replace R:=R.later a;clear b c;have n:=A.c1;have o:=B.c1;have p:=A.f1
   go_wp2
   go_roundw
   case rel=>exact⟨2,2,by omega,rfl,by go_num,(qa j a).setCell (by simp) _,by simpa[qia h]using A.set1 e,B.far _ _ (by simp),R.far _ _ (by simp;omega)⟩
   simp[intOf]
  refine wrl ?_
  repeat (go_big_quiet_step (fail))
  refine wpQuiet_nil ?_;rintro l ⟨⟨_,a⟩,rfl⟩;replace A:=A.later a;replace B:=B.later a;replace R:=R.later a;clear b c
  go_wp2
  go_roundw
  case rel=>exact⟨2,2,by omega,rfl,by go_num,qa j a,by simpa[qh1 h]using A,B,R⟩
  simp[intOf]
 ·obtain rfl:z=2:=by omega
  clear m
  go_wp2
  have b:=qb.cell A.c2;have c:=qb.cell B.c2;by_cases h:a2<f
  ·refine wrl ?_
   repeat (go_big_quiet_step (fail))
   refine wpQuiet_nil ?_;rintro l ⟨⟨_,a⟩,rfl⟩;replace A:=A.later a;replace B:=B.later a;replace R:=R.later a;clear b c;have n:=A.c2;have o:=B.c2;have p:=A.f2
   go_wp2
   go_roundw
   case rel=>exact⟨3,3,by omega,rfl,by go_num,(qa j a).setCell (by simp) _,by simpa[qia h]using A.set2 f,B.far _ _ (by simp),R.far _ _ (by simp;omega)⟩
   simp[intOf]
  refine wrl ?_
  repeat (go_big_quiet_step (fail))
  refine wpQuiet_nil ?_;rintro l ⟨⟨_,a⟩,rfl⟩;replace A:=A.later a;replace B:=B.later a;replace R:=R.later a;clear b c
  go_wp2
  go_roundw
  case rel=>exact⟨3,3,by omega,rfl,by go_num,qa j a,by simpa[qh1 h]using A,B,R⟩
  simp[intOf]
 ·obtain rfl:z=3:=by omega
  clear m
  go_wp2
  have b:=qb.cell A.c3;have c:=qb.cell B.c3;by_cases h:a3<g
  ·refine wrl ?_
   repeat (go_big_quiet_step (fail))
   refine wpQuiet_nil ?_;rintro l ⟨⟨_,a⟩,rfl⟩;replace A:=A.later a;replace B:=B.later a;replace R:=R.later a;clear b c;have n:=A.c3;have o:=B.c3;have p:=A.f3
   go_wp2
   go_roundw
   case rel=>exact⟨4,4,by omega,rfl,by go_num,(qa j a).setCell (by simp) _,by simpa[qia h]using A.set3 g,B.far _ _ (by simp),R.far _ _ (by simp;omega)⟩
   simp[intOf]
  refine wrl ?_
  repeat (go_big_quiet_step (fail))
  refine wpQuiet_nil ?_;rintro l ⟨⟨_,a⟩,rfl⟩;replace A:=A.later a;replace B:=B.later a;replace R:=R.later a;clear b c
  go_wp2
  go_roundw
  case rel=>exact⟨4,4,by omega,rfl,by go_num,qa j a,by simpa[qh1 h]using A,B,R⟩
  simp[intOf]
 obtain rfl:z=4:=by omega
 clear m;obtain⟨b,c,u,C,D,f1,E,F⟩:=A;obtain⟨n,o,p,s,G,H,I,J⟩:=R
 go_wp2
 exact bodyPost_ret (v:=.agg #[U (jd a0 d),U (jd a1 e),U (jd a2 f),U (jd a3 g)]) (by simp[results,Tryz.results83,go_sem,n,o,p,s]) rfl ⟨rfl,(((j.setCell (by simp;omega) _).setCell (by simp;omega) _).setCell (by simp;omega) _).setCell (by simp;omega) _⟩
theorem qgh (a0 a1 a2 a3 d e f g:Int) (w:World):
 Ca 86 #[.agg #[U a0,U a1,U a2,U a3],.agg #[U d,U e,U f,U g]] w (Rn (.agg #[U (qm a0 d),U (qm a1 e),U (qm a2 f),U (qm a3 g)]) w):=by
 have t:=qb.one;go_enter Tryz.func86,Tryz.ntmps86
 go_wp2
 go_loopw [6] (λi wr=>∃(k:Nat) (z:Int),k<=4/\z=k/\i=U z/\Bw w wr/\qo wr w.heap.size (if 0<k then qm a0 d else a0) (if 1<k then qm a1 e else a1) (if 2<k then qm a2 f else a2) (if 3<k then qm a3 g else a3)/\qo wr (w.heap.size+1) d e f g/\qo wr (w.heap.size+1+1) 0 0 0 0) (λi _=>4-(intOf i).toNat)
 case atStart=>
  have x:=qo.new w 77 a0 a1 a2 a3;have y:=qo.new (w.alloc (.cells #[U a0,U a1,U a2,U a3] 77)) 77 d e f g;have z:=qo.new ((w.alloc (.cells #[U a0,U a1,U a2,U a3] 77)).alloc (.cells #[U d,U e,U f,U g] 77)) 77 0 0 0 0;simp only[jdi]at y z;exact⟨0,0,by omega,rfl,rfl,boxed (boxed (boxed (jcc _ _) _) _) _,(x.later (boxed (jcc _ _) _)).later (boxed (jcc _ _) _),y.later (boxed (jcc _ _) _),z⟩
 obtain⟨k,z,q,m,rfl,j,A,B,R⟩:=hrel
 have r:k=0\/k=1\/k=2\/k=3\/k=4:=by omega
 clear q;rcases r with rfl|rfl|rfl|rfl|rfl
 all_goals simp only[Nat.lt_irrefl,Nat.not_lt_zero,if_true,if_false,Nat.reduceLT]at A
 ·obtain rfl:z=0:=by omega
  clear m
  go_wp2
  have b:=qb.cell A.c0;have c:=qb.cell B.c0;by_cases h:d<a0
  ·refine wrl ?_
   repeat (go_big_quiet_step (fail))
   refine wpQuiet_nil ?_;rintro l ⟨⟨_,a⟩,rfl⟩;replace A:=A.later a;replace B:=B.later a;replace R:=R.later a;clear b c;have n:=A.c0;have o:=B.c0;have p:=A.f0
   go_wp2
   go_roundw
   case rel=>exact⟨1,1,by omega,rfl,by go_num,(qa j a).setCell (by simp) _,by simpa[qj1 h]using A.set0 d,B.far _ _ (by simp),R.far _ _ (by simp;omega)⟩
   simp[intOf]
  refine wrl ?_
  repeat (go_big_quiet_step (fail))
  refine wpQuiet_nil ?_;rintro l ⟨⟨_,a⟩,rfl⟩;replace A:=A.later a;replace B:=B.later a;replace R:=R.later a;clear b c
  go_wp2
  go_roundw
  case rel=>exact⟨1,1,by omega,rfl,by go_num,qa j a,by simpa[qjp h]using A,B,R⟩
  simp[intOf]
 ·obtain rfl:z=1:=by omega
  clear m
  go_wp2
  have b:=qb.cell A.c1;have c:=qb.cell B.c1;by_cases h:e<a1
  ·refine wrl ?_
   repeat (go_big_quiet_step (fail))
   refine wpQuiet_nil ?_;rintro l ⟨⟨_,a⟩,rfl⟩;replace A:=A.later a;replace B:=B.later a;replace R:=R.later a;clear b c;have n:=A.c1;have o:=B.c1;have p:=A.f1
   go_wp2
   go_roundw
   case rel=>exact⟨2,2,by omega,rfl,by go_num,(qa j a).setCell (by simp) _,by simpa[qj1 h]using A.set1 e,B.far _ _ (by simp),R.far _ _ (by simp;omega)⟩
   simp[intOf]
  refine wrl ?_
  repeat (go_big_quiet_step (fail))
  refine wpQuiet_nil ?_;rintro l ⟨⟨_,a⟩,rfl⟩;replace A:=A.later a;replace B:=B.later a;replace R:=R.later a;clear b c
  go_wp2
  go_roundw
  case rel=>exact⟨2,2,by omega,rfl,by go_num,qa j a,by simpa[qjp h]using A,B,R⟩
  simp[intOf]
 ·obtain rfl:z=2:=by omega
  clear m
  go_wp2
  have b:=qb.cell A.c2;have c:=qb.cell B.c2;by_cases h:f<a2
  ·refine wrl ?_
   repeat (go_big_quiet_step (fail))
   refine wpQuiet_nil ?_;rintro l ⟨⟨_,a⟩,rfl⟩;replace A:=A.later a;replace B:=B.later a;replace R:=R.later a;clear b c;have n:=A.c2;have o:=B.c2;have p:=A.f2
   go_wp2
   go_roundw
   case rel=>exact⟨3,3,by omega,rfl,by go_num,(qa j a).setCell (by simp) _,by simpa[qj1 h]using A.set2 f,B.far _ _ (by simp),R.far _ _ (by simp;omega)⟩
   simp[intOf]
  refine wrl ?_
  repeat (go_big_quiet_step (fail))
  refine wpQuiet_nil ?_;rintro l ⟨⟨_,a⟩,rfl⟩;replace A:=A.later a;replace B:=B.later a;replace R:=R.later a;clear b c
  go_wp2
  go_roundw
  case rel=>exact⟨3,3,by omega,rfl,by go_num,qa j a,by simpa[qjp h]using A,B,R⟩
  simp[intOf]
 ·obtain rfl:z=3:=by omega
  clear m
  go_wp2
  have b:=qb.cell A.c3;have c:=qb.cell B.c3;by_cases h:g<a3
  ·refine wrl ?_
   repeat (go_big_quiet_step (fail))
   refine wpQuiet_nil ?_;rintro l ⟨⟨_,a⟩,rfl⟩;replace A:=A.later a;replace B:=B.later a;replace R:=R.later a;clear b c;have n:=A.c3;have o:=B.c3;have p:=A.f3
   go_wp2
   go_roundw
   case rel=>exact⟨4,4,by omega,rfl,by go_num,(qa j a).setCell (by simp) _,by simpa[qj1 h]using A.set3 g,B.far _ _ (by simp),R.far _ _ (by simp;omega)⟩
   simp[intOf]
  refine wrl ?_
  repeat (go_big_quiet_step (fail))
  refine wpQuiet_nil ?_;rintro l ⟨⟨_,a⟩,rfl⟩;replace A:=A.later a;replace B:=B.later a;replace R:=R.later a;clear b c
  go_wp2
  go_roundw
  case rel=>exact⟨4,4,by omega,rfl,by go_num,qa j a,by simpa[qjp h]using A,B,R⟩
  simp[intOf]
 obtain rfl:z=4:=by omega
 clear m;obtain⟨b,c,u,C,D,f1,E,F⟩:=A;obtain⟨n,o,p,s,G,H,I,J⟩:=R
 go_wp2
 exact bodyPost_ret (v:=.agg #[U (qm a0 d),U (qm a1 e),U (qm a2 f),U (qm a3 g)]) (by simp[results,Tryz.results86,go_sem,n,o,p,s]) rfl ⟨rfl,(((j.setCell (by simp;omega) _).setCell (by simp;omega) _).setCell (by simp;omega) _).setCell (by simp;omega) _⟩
theorem qsz {b i:Nat} {wv:Value} {s:qy} {G:Nat->Prop} {F:Nat->Option Obj} {S:qe} (w:World) (h:qgs w b wv s) (m:RS w i G F S) (n:¬G b):
 Ca 31 #[PP b,PP i] w λe w'=>e=.returned (U (qhl S s))/\qep w b wv (qhd S s) w':=by
 obtain⟨lv,q,sv,log,waits,M,_,_,o,_⟩:=m;have r:=qb.one;have t:b≠i:=λe=>n ((o b).2 (.inl (.inl e)));have j:=hd1 h;have p:=hd1 M;have k:=h.box.cell 8 _ rfl;cases ho:s.opn
 ·have u:=qb.cell (h.box.cell 0 _ rfl);have l1:=qb.cell (h.box.cell 1 _ rfl);have v:=qb.cell (h.box.cell 2 _ rfl);have x:=qb.cell (h.box.cell 3 _ rfl);have x1:=qb.cell (M.box.cell 1 _ rfl);have x2:=qb.cell (M.box.cell 2 _ rfl);have x3:=qb.cell (M.box.cell 3 _ rfl);have y:=qb.cell (M.box.cell 4 _ rfl);rw[ho]at k;have l:=hd1 ho;cases hc:qa8 S.a0 S.a1 S.a2 S.a3 s.p0 s.p1 s.p2 s.p3
  ·have d:=hd1 hc
   have c:Hid (qhl S s=10):=by show _=_;unfold qhl;rw[l.out,d.out];rfl
   go_enter Tryz.func31,Tryz.ntmps31
   go_wp2_with fail
   refine wrl ?_
   repeat (go_big_quiet_step (first|rfl|(go_at_call 77;with_reducible exact qg (yo d.out _))))
   refine wpQuiet_nil ?_;rintro w2 ⟨⟨_,f⟩,rfl⟩
   go_wp2_with fail
   go_ret;refine⟨by rw[c.out];rfl,?_⟩;rw[show qhd S s=s by unfold qhd;rw[if_neg (by rw[c.out];decide)]];exact qep.same j.out f
  have d:=hd1 hc
  have c:Hid (qhl S s=0):=by show _=_;unfold qhl;rw[l.out,d.out];rfl
  go_enter Tryz.func31,Tryz.ntmps31
  go_wp2_with fail
  refine wrl ?_
  repeat (go_big_quiet_step (first|rfl|(go_at_call 77;with_reducible exact qg (yo d.out _))))
  refine wpQuiet_nil ?_;rintro w2 ⟨⟨_,f⟩,rfl⟩;have a:=j.out.box.later f;have g:=p.out.box.later f;have z:=g.cell 1 _ rfl;have B:=g.cell 2 _ rfl;have C:=g.cell 3 _ rfl;have D:=g.cell 4 _ rfl;have E:=a.cell 4 _ rfl;have H:=a.cell 5 _ rfl;have I:=a.cell 6 _ rfl;have J:=a.cell 7 _ rfl;have K:=a.cell 8 _ rfl;have L:=a.cell 9 _ rfl;have N:=a.free 4 (by simp[jr]);have O:=a.free 5 (by simp[jr]);have P:=a.free 6 (by simp[jr]);have Q:=a.free 7 (by simp[jr]);have R:=a.free 8 (by simp[jr]);have T:=a.free 9 (by simp[jr])
  go_wp2_with fail
  go_ret;refine⟨by rw[c.out];rfl,?_⟩;rw[show qhd S s={s with opn:=true,s0:=S.a0,s1:=S.a1,s2:=S.a2,s3:=S.a3,ws:=[]} by unfold qhd;rw[if_pos c.out]];exact q9v f a S.a0 S.a1 S.a2 S.a3
 rw[ho]at k
 have c:Hid (qhl S s=6):=by show _=_;unfold qhl;rw[ho];rfl
 go_enter Tryz.func31,Tryz.ntmps31
 go_wp2_with fail
 go_ret;refine⟨by rw[c.out];rfl,?_⟩;rw[show qhd S s=s by unfold qhd;rw[if_neg (by rw[c.out];decide)]];exact qep.same j.out (jcc _ _)
section
variable {b:Nat}
theorem qhn {tmps:Array Value} {w:World} {v:Ver} {ev:Int} (h:qd w b (qh v)) (a:tmps[6]?=some (PP b)) (c:tmps[7]?=some (U ev)):
 (results Tryz.f79 tmps).run Tryz.prog w=.ok (.tuple #[.agg (qh v).toArray,U ev]) w:=by
 obtain⟨d,e,f,g,i,j⟩:=h.c6;simp[results,Tryz.results79,go_sem,a,c,d,e,f,g,i,j,qh]
theorem qnx {lv wv sv:Value} {S:qe} {log waits:List TxM} (key a0 a1 a2 a3:Int) (w:World) (h:vu w b lv wv sv S log waits) (D:S.l.length<=1000000):
 Ca 79 #[PP b,U key,.agg #[U a0,U a1,U a2,U a3]] w λe w'=>
  e=.returned (.tuple #[.agg (qh (qbq S key a0 a1 a2 a3).1).toArray,U (qbq S key a0 a1 a2 a3).2])/\Bw w w':=by
 have f:=(qo.new w 77 a0 a1 a2 a3).boxed (.cells YA 130);have c:qd ((w.alloc (.cells #[U a0,U a1,U a2,U a3] 77)).alloc (.cells YA 130)) (w.heap.size+1) (qh jq):=qd.new (w:=w.alloc (.cells #[U a0,U a1,U a2,U a3] 77)) (T:=130) (n:=w.heap.size+1) YL (by simp);have g:=boxed (boxed (jcc _ w) (.cells #[U a0,U a1,U a2,U a3] 77)) (.cells YA 130);have i:Hid (vu _ b lv wv sv S log waits):=h.later g;have V:=hd1 h;have W:=qb.cell (i.out.box.cell 1 _ rfl);have X:=qb.cell (i.out.box.cell 2 _ rfl);have Y:=qb.cell (i.out.box.cell 3 _ rfl);have Z:=qb.cell (i.out.box.cell 4 _ rfl);have c0:=qb.cell f.c0;have c1:=qb.cell f.c1;have c2:=qb.cell f.c2;have c3:=qb.cell f.c3;go_enter Tryz.func79,Tryz.ntmps79
 go_wp2_with fail
 refine wrl ?_
 repeat (go_big_quiet_step (first|rfl|(go_at_call 77;exact qg (qkp _ _ _ _ _ _ _ _ _))))
 refine wpQuiet_nil ?_;rintro r ⟨⟨_,s⟩,rfl⟩;replace c:=c.later s;replace f:=qo.later s f;replace g:=qa g s;have t:=hd1 (i.out.later s);cases hc:qa8 S.a0 S.a1 S.a2 S.a3 a0 a1 a2 a3
 ·have u:Hid (qbq S key a0 a1 a2 a3=(jq,10)):=by show qbq S key a0 a1 a2 a3=(jq,10);unfold qbq;rw[hc];rfl
  have E:=c.cell 0 _ rfl;have p0:=c.free 0 (by simp[qh]);have F:=c.cell 1 _ rfl;have p1:=c.free 1 (by simp[qh]);have G:=c.cell 2 _ rfl;have p2:=c.free 2 (by simp[qh]);have H:=c.cell 3 _ rfl;have p3:=c.free 3 (by simp[qh]);have I:=c.cell 4 _ rfl;have J:=c.free 4 (by simp[qh]);have K:=c.cell 5 _ rfl;have L:=c.free 5 (by simp[qh]);have y:=qn6 c 0 0 0 0 ⟨#[]⟩ false;have z:=qn3 g (show w.heap.size<=w.heap.size+1 by omega) 0 0 0 0 ⟨#[]⟩ false
  go_wp2_with fail
  refine bodyPost_ret (qhn (v:=jq) y rfl rfl) rfl ⟨?_,z⟩;rw[u.out]
 obtain⟨⟨⟨j,k,m,o,p,q⟩,ev⟩,B⟩:∃x,zz key a0 a1 a2 a3 S.l=x:=⟨_,rfl⟩
 have u:Hid (qbq S key a0 a1 a2 a3=(⟨j,k,m,o,p,q⟩,ev)):=by show qbq S key a0 a1 a2 a3=_;unfold qbq;rw[hc,<-B];rfl
 obtain⟨a,cap,M,N⟩:=qhq t.out.own
 have O:Hid (Ca 91 #[.pointer (some (AD b 9)),U key,.agg #[U a0,U a1,U a2,U a3]] r.drew λe w'=>e=.returned (.tuple #[.agg #[U j,U k,U m,U o,.string p,.bool q],U ev])/\qo w' w.heap.size a0 a1 a2 a3/\qd w' (w.heap.size+1) (qh jq)/\Bw w w'):=by
  have P:r.cell? (AD b 9)=some (.slice a S.l.length cap):=by rw[<-M];exact t.out.box.cell 9 _ rfl
  refine(qrb key a0 a1 a2 a3 r.drew P (N.later (jcc _ r).drew) t.out.ok D).mono ?_;rintro e w' ⟨rfl,C⟩;refine⟨by rw[B];rfl,qo.later C f.drew,c.drew.later C,qa g.drew C⟩
 have HRV:=hd1 B;have T0:=λ(w':World) (h:qo w' w.heap.size a0 a1 a2 a3)=>h.c0;have T1:=λ(w':World) (h:qo w' w.heap.size a0 a1 a2 a3)=>h.c1;have T2:=λ(w':World) (h:qo w' w.heap.size a0 a1 a2 a3)=>h.c2;have T3:=λ(w':World) (h:qo w' w.heap.size a0 a1 a2 a3)=>h.c3;have RA0:=f.drew
 have Q:w.heap.size+1≠w.heap.size:=by omega
 go_wp2_with fail
 go_region_held3 (λw'=>qo w' w.heap.size a0 a1 a2 a3) (first|(with_reducible assumption)|(with_reducible exact qt0 (by with_reducible assumption) Q _ _ _ _ _ _))
  (first|(go_at_call 91;with_reducible refine O.out.mono ?_;rintro e w5 ⟨rfl,RA5,d,R⟩;have E:=d.cell 0 _ rfl;have p0:=d.free 0 (by simp[qh]);have F:=d.cell 1 _ rfl;have p1:=d.free 1 (by simp[qh]);have G:=d.cell 2 _ rfl;have p2:=d.free 2 (by simp[qh]);have H:=d.cell 3 _ rfl;have p3:=d.free 3 (by simp[qh]);have I:=d.cell 4 _ rfl;have J:=d.free 4 (by simp[qh]);have K:=d.cell 5 _ rfl;have L:=d.free 5 (by simp[qh])))
 all_goals
  have y:=qn6 d j k m o p q;have z:=qn3 R (show w.heap.size<=w.heap.size+1 by omega) j k m o p q
  go_wp2_with fail
  refine bodyPost_ret (qhn (v:=⟨j,k,m,o,p,q⟩) y rfl rfl) rfl ⟨?_,z⟩;rw[u.out]
end
section
variable {b:Nat} {G:Nat->Prop} {F:Nat->Option Obj} {S:qe}
theorem q07 (key a0 a1 a2 a3:Int) (w:World) (h:RS w b G F S) (a:j3 S):
 Ca 79 #[PP b,U key,.agg #[U a0,U a1,U a2,U a3]] w λe w'=>
  e=.returned (.tuple #[.agg (qh (qbq S key a0 a1 a2 a3).1).toArray,U (qbq S key a0 a1 a2 a3).2])/\Bw w w':=by
 obtain⟨lv,wv,sv,log,waits,h,_,_,_⟩:=h;exact qnx key a0 a1 a2 a3 w h (by have:=a.len;have:=a.log;omega)
theorem RS.of {w w':World} {lv wv sv g h i:Value} {S':qe} {log waits a:List TxM} (o:a.map (·.t)=S'.log) (p:waits.map (·.t)=S'.waits) (f:∀k,G k↔(qu b lv wv sv k\/∃m∈log++waits,m.blk k)) (M:vu w' b g h i S' a waits) (q:∀k,qu b g h i k->qu b lv wv sv k\/w.heap.size<=k) (c:qc (qu b lv wv sv) w w')
 (r:qdn w' F a) (s:∀m∈a,m∈log\/∀k,m.blk k->w.heap.size<=k):RPo w b G F S' w':=by
 refine⟨_,⟨g,h,i,a,waits,M,o,p,λk=>jdl,r⟩,λk j=>?_,⟨c.os,c.tape,c.output,c.size,λk j u=>c.block k j (λe=>u ((f k).2 (.inl e)))⟩⟩;rcases j with d|⟨m,v,d⟩
 ·exact(q k d).imp (λe=>(f k).2 (.inl e)) id
 rcases jcf.1 v with l|l
 ·rcases s m l with n|n
  ·exact .inl ((f k).2 (.inr ⟨m,jcf.2 (.inl n),d⟩))
  exact .inr (n k d)
 exact .inl ((f k).2 (.inr ⟨m,jcf.2 (.inr l),d⟩))
def jbj (F:Nat->Option Obj) (m:TxM) (F':Nat->Option Obj):Prop:=(∀k o,F k=some o->F' k=some o)/\∀k,m.blk k->∃o,F' k=some o
def q3u (w:World) (b:Nat) (G:Nat->Prop) (F:Nat->Option Obj) (S:qe) (now d0 d1 d2 d3:Int) (ws:List Wr) (e:Ending) (w':World):Prop:=
 ∃m:TxM,e=.returned (.tuple #[txV m,U (qfl S now d0 d1 d2 d3 ws)])/\m.t=qha S now d0 d1 d2 d3 ws/\Hid (qr w' m.wa m.wc m.t.ws/\∃F',jbj F m F'/\RPo w b G F' (qf3 S now d0 d1 d2 d3 ws) w')/\∀k,m.blk k->w.heap.size<=k
theorem qwq (now c d f g:Int) {a:Option Addr} {cap:Nat} {ws:List Wr} (w:World) (h:RS w b G F S) (H:j3 S) (z:qr w a cap ws) (I:∀k q,ws≠[]->a=some (AD k q)->¬G k):
 Ca 127 #[PP b,U now,.agg #[U c,U d,U f,U g],.slice a ws.length cap] w (q3u w b G F S now c d f g ws):=by
 have J:=h;obtain⟨lv,wv,sv,log,waits,n,A,K,B,C⟩:=h
 have D:log.length=S.log.length:=by rw[<-A];simp
 have r:ji S log.length now c d f g ws=qfl S now c d f g ws:=by rw[D];rfl
 by_cases l:ji S log.length now c d f g ws=0
 ·have j:qfl S now c d f g ws=0:=by rw[<-r];exact l
  refine(qqv now c d f g w n H D z (λk q L N O=>I k q L N ((B k).2 (.inl O))) l).mono λe w' s=>?_;obtain⟨p,wc,Y,Z,t,M,P,E,u⟩:=s
  ·refine⟨⟨zv S now c d f g ws,p,wc⟩,by rw[t,j];rfl,by unfold qha;rw[if_pos j],⟨(M.hold _ (jcf.2 (.inl (jcf.2 (.inr (jcj.2 rfl)))))).1,?_⟩,u⟩;have Q:=(M.hold _ (jcf.2 (.inl (jcf.2 (.inr (jcj.2 rfl)))))).1
   have R:∀k o,F k=some o->¬(⟨zv S now c d f g ws,p,wc⟩:TxM).blk k:=λk o e i=>by
        obtain⟨_,m,v,T⟩:=C k o e;have:=(n.hold m (jcf.2 (.inl v))).1.blk_lt k T;have:=u k i;omega
   classical
   refine⟨λk=>if (⟨zv S now c d f g ws,p,wc⟩:TxM).blk k then w'.heap[k]?else F k,⟨λk o e=>by simp only;rw[if_neg (R k o e)];exact e,λk i=>⟨w'.heap[k]'(Q.blk_lt k i),by simp only;rw[if_pos i];exact jde _⟩⟩,?_⟩;unfold qf3;rw[if_pos j];refine RS.of (by rw[jdb,A];rfl) K B M P E (λk o e=>?_) (λm v=>?_)
   ·by_cases i:(⟨zv S now c d f g ws,p,wc⟩:TxM).blk k
    ·rw[if_pos i]at e;exact⟨e,_,jcf.2 (.inr (jcj.2 rfl)),i⟩
    rw[if_neg i]at e;exact C.touch n E (λx V=>jcf.2 (.inl V)) k o e
   rcases jcf.1 v with y|y
   ·exact .inl y
   rw[jcj.1 y];exact .inr u
 have j:qfl S now c d f g ws≠0:=by rw[<-r];exact l
 refine(qs2 now c d f g w n z l).mono λe w' s=>?_;rcases s with ⟨_,t,W⟩|⟨X,_⟩
 ·refine⟨tx0,by rw[t,r];rfl,by unfold qha;rw[if_neg j];rfl,⟨⟨jcd _,by decide,.inl rfl⟩,?_⟩,λk i=>absurd rfl i.1⟩;refine⟨F,⟨λ_ _ e=>e,λk i=>absurd rfl i.1⟩,?_⟩;unfold qf3;rw[if_neg j];exact RPo.same J W
 exact absurd X l
end
section
def qek (b:Nat) (F:Nat->Option Obj) (S:qe):qfr:=⟨λw G=>RS w b G F S,λ_ _ h=>h.lt,λ_ _ _ h=>h.kept⟩
def RSe (w:World) (b:Nat) (G:Nat->Prop) (s:qy):Prop:=∃wv,qgs w b wv s/\∀k,G k↔(k=b\/wv.ownBlock=some k)
variable {w:World} {b:Nat} {G:Nat->Prop} {s:qy}
theorem RSe.lt (h:RSe w b G s):∀k,G k->k<w.heap.size:=by
 obtain⟨wv,h,a⟩:=h;intro k c;rcases(a k).1 c with e|e
 ·rw[e];exact h.box.lt
 exact(h.row.lt k e).2
variable {w':World}
theorem RSe.kept (h:RSe w b G s) (c:∀k,G k->w'.heap[k]?=w.heap[k]?) (d:w.heap.size<=w'.heap.size):RSe w' b G s:=by
 obtain⟨wv,h,a⟩:=h;exact⟨wv,⟨h.box.kept (c b ((a b).2 (.inl rfl))) d,qf h.row (λk e=>c k ((a k).2 (.inr e))),h.nb⟩,a⟩
def qjd (b:Nat) (s:qy):qfr:=⟨λw G=>RSe w b G s,λ_ _ h=>h.lt,λ_ _ _ h=>h.kept⟩
theorem qep.left {wv:Value} {g:qy} (c:∀k,G k↔(k=b\/wv.ownBlock=some k)) (h:qep w b wv g w'):qbi (qjd b g) w G w':=by
 obtain⟨i,j,l,a⟩:=h;refine⟨λk=>k=b\/i.ownBlock=some k,⟨i,j,λ_=>jdl⟩,λk d=>?_,⟨a.os,a.tape,a.output,a.size,λk d m=>a.block k d (λe=>m ((c k).2 e))⟩⟩;rcases d with e|e
 ·exact .inl ((c k).2 (.inl e))
 rcases l k e with f|f
 ·exact .inl ((c k).2 (.inr f))
 exact .inr f
theorem jaa (T:TypeId):RSe (w.alloc (.cells (jr qez (.slice none 0 0)).toArray T)) w.heap.size (λk=>k=w.heap.size) qez:=
 ⟨.slice none 0 0,⟨qd.new (w:=w) (T:=T) _ rfl,jcx _ _ _ _,by simp[Value.ownBlock]⟩,λk=>⟨λh=>.inl h,λh=>by simpa[Value.ownBlock]using h⟩⟩
def q6u (w:World) (b bx:Nat) (G Gx:Nat->Prop) (F:Nat->Option Obj) (S:qe) (s:qy) (now:Int) (e:Ending) (w':World):Prop:=
 ∃m:TxM,e=.returned (.tuple #[txV m,U (qeg S s now)])/\m.t=qce S s now/\Hid (qr w' m.wa m.wc m.t.ws/\∃F',jbj F m F'/\qfx (qjd b (j0 S s now)) (qek bx F' (qcc S s now)) w G Gx m.blk w')
end
section
def qgn (bp:Nat->Nat) (n:Nat):List Value:=(List.range n).map (λi=>.pointer (PT (bp i)))
def qdw (x:Nat->Int) (n:Nat):List Value:=(List.range n).map (λi=>U (x i))
theorem qlj (x:Nat->Int) (n:Nat):(qdw x n).length=n:=by simp[qdw]
variable {n i:Nat}
theorem qn4 {bp:Nat->Nat} (hi:i<n):(qgn bp n)[i]?=some (PP (bp i)):=by
 unfold qgn;rw[jcv,List.getElem?_range hi];rfl
theorem qie {x:Nat->Int} (hi:i<n):(qdw x n)[i]?=some (U (x i)):=by
 unfold qdw;rw[jcv,List.getElem?_range hi];rfl
structure GrR where
 g:GrS
 wa:Option Addr
 wc:Nat
def grT:GrB->TxP
 |.tx t=>t
 |.ask ..=>tx0.t
def grA:GrB->Int×Int×Int×Int×Int
 |.tx _=>(0,0,0,0,0)
 |.ask s a0 a1 a2 a3=>(s,a0,a1,a2,a3)
def GrR.m (x:GrR):TxM:=⟨grT x.g.body,x.wa,x.wc⟩
def qbj (x:GrR):List Value:=U x.g.to::(txC x.m++[U (grA x.g.body).1,U (grA x.g.body).2.1,U (grA x.g.body).2.2.1,U (grA x.g.body).2.2.2.1,U (grA x.g.body).2.2.2.2])
def qcm (l:List GrR):List Value:=l.flatMap qbj
theorem qdc (x:GrR):(qbj x).length=15:=rfl
theorem quf (l:List GrR):(qcm l).length=l.length*15:=by
 induction l with
 |nil=>rfl
 |cons x l ih=>
  show (qbj x++qcm l).length=_;rw[jcl,ih,qdc];simp;omega
theorem q1k (l:List GrR) (x:GrR):qcm (l++[x])=qcm l++qbj x:=by simp[qcm]
theorem qyc:∀{l:List GrR} {i r:Nat} {x:GrR} {u:Value},l[i]?=some x->(qbj x)[r]?=some u->(qcm l)[i*15+r]?=some u
 |[],i,r,x,u,h,_=>by simp at h
 |y::l,0,r,x,u,h,hu=>by
  have e:y=x:=by simpa using h
  subst e
  have a:r<15:=by have:=(jck.1 hu).1;rw[qdc]at this;exact this
  show (qbj y++qcm l)[_]?=_;rw[Nat.zero_mul,Nat.zero_add,jc3 (by rw[qdc];exact a)];exact hu
 |y::l,i+1,r,x,u,h,hu=>by
  have c:l[i]?=some x:=by simpa using h
  show (qbj y++qcm l)[_]?=_;rw[jc0 (by rw[qdc];omega),qdc,show (i+1)*15+r-15=i*15+r by omega];exact qyc c hu
structure GrR.Ok (w:World) (n:Nat) (F:Nat->Nat->Option Obj) (x:GrR):Prop where
 wi:qr w x.m.wa x.m.wc x.m.t.ws
 fr:∀k,x.m.blk k->∃i o,i<n/\F i k=some o
 none:∀s a0 a1 a2 a3,x.g.body=.ask s a0 a1 a2 a3->x.wa=none/\x.wc=0
structure RoM where
 sv:Value
 wv:Value
 cv:Value
 av:Value
 yv:Value
 bp:Nat->Nat
 bs:Nat->Nat
 F:Nat->Nat->Option Obj
 l:List GrR
def vx (b:Nat) (M:RoM):List (Option Nat):=[some b,M.sv.ownBlock,M.wv.ownBlock,M.cv.ownBlock,M.av.ownBlock,M.yv.ownBlock]
def ql (b:Nat) (M:RoM) (k:Nat):Prop:=some k∈vx b M
def qdm (M:RoM) (W:WoS):Nat->qfr:=λi=>if i<W.n then qek (M.bp i) (M.F i) (W.S i)else qjd (M.bs (i-W.n)) (W.ses (i-W.n))
structure RWo (w:World) (b:Nat) (M:RoM) (W:WoS) (Gs:Nat->Nat->Prop):Prop where
 box:qd w b [M.sv,M.wv,M.cv,M.av,M.yv,U W.lost]
 sr:w.ownsRow 0 75 1 M.sv W.n (qgn M.bp W.n)
 wr:w.ownsRow 0 3 1 M.wv W.n (qdw W.wall W.n)
 cr:w.ownsRow 0 87 1 M.cv W.c (qgn M.bs W.c)
 ar:w.ownsRow 0 3 1 M.av W.c (qdw (λk=>(W.at_ k:Int)) W.c)
 yr:w.ownsRow 0 108 15 M.yv M.l.length (qcm M.l)
 nl:M.l.map (·.g)=W.net
 gr:∀x∈M.l,x.Ok w W.n M.F
 fam:zh w (W.n+W.c) (qdm M W) Gs (ql b M) (W.n+W.c) NoY
 ap:(vx b M).Pairwise (λx y=>∀k,x=some k->y≠some k)
variable {k:Nat} {G:Nat->Prop} {F:Nat->Option Obj} {S:qe} {o:Obj} {F':Nat->Nat->Option Obj} {x:GrR}
section
variable {w w':World} {b:Nat} {M:RoM} {W:WoS} {Gs:Nat->Nat->Prop}
theorem RWo.site (h:RWo w b M W Gs) (hi:i<W.n):RS w (M.bp i) (Gs i) (M.F i) (W.S i):=by
 have:=h.fam.is i (by omega);unfold qdm at this;rw[if_pos hi]at this;exact this
theorem RWo.sess (h:RWo w b M W Gs) (a:k<W.c):RSe w (M.bs k) (Gs (W.n+k)) (W.ses k):=by
 have:=h.fam.is (W.n+k) (by omega);unfold qdm at this;rw[if_neg (by omega),show W.n+k-W.n=k by omega]at this;exact this
theorem RS.frozen (h:RS w b G F S) (e:F k=some o):w.heap[k]?=some o:=by
 obtain⟨_,_,_,_,_,_,_,_,_,a⟩:=h;exact(a k o e).1
theorem RS.frozenG (h:RS w b G F S) (e:F k=some o):G k:=by
 obtain⟨_,_,_,log,_,_,_,_,a,c⟩:=h;obtain⟨_,m,d,f⟩:=c k o e;exact(a k).2 (.inr ⟨m,jcf.2 (.inl d),f⟩)
theorem GrR.Ok.to {F:Nat->Nat->Option Obj} (h:x.Ok w n F) (c:∀i k o,i<n->F i k=some o->F' i k=some o/\w.heap[k]?=some o/\w'.heap[k]?=some o):x.Ok w' n F':=by
 refine⟨h.wi.kept (m:=x.m) (λk e=>?_),λk e=>?_,h.none⟩
 ·obtain⟨i,o,hi,a⟩:=h.fr k e;have:=c i k o hi a;rw[this.2.1,this.2.2]
 obtain⟨i,o,hi,a⟩:=h.fr k e;exact⟨i,o,hi,(c i k o hi a).1⟩
theorem RWo.keep (h:RWo w b M W Gs) {W':WoS} {l:Nat->Nat->Prop} (a:jg (ql b M) w w') (m:zh w' (W.n+W.c) (qdm {M with F:=F'} W') l (ql b M) (W.n+W.c) NoY) (p:∀i k o,i<W.n->M.F i k=some o->F' i k=some o) (f:W'.n=W.n) (j:W'.c=W.c) (r:W'.wall=W.wall) (s:W'.at_=W.at_) (t:W'.net=W.net) (u:W'.lost=W.lost):RWo w' b {M with F:=F'} W' l:=by
 have d:∀{x:Option Nat},x∈vx b M->∀k,x=some k->ql b M k:=λg k e=>by rw[e]at g;exact g
 refine⟨?_,?_,?_,?_,?_,qf h.yr (λk e=>a.block k (d (x:=M.yv.ownBlock) (by simp[vx]) k e)),by rw[t];exact h.nl,λx g=>?_,by rw[f,j];exact m,h.ap⟩
 ·rw[u];exact h.box.keeps a (d (x:=some b) (by simp[vx]) b rfl)
 ·rw[f];exact qf h.sr (λk e=>a.block k (d (x:=M.sv.ownBlock) (by simp[vx]) k e))
 ·rw[f,r];exact qf h.wr (λk e=>a.block k (d (x:=M.wv.ownBlock) (by simp[vx]) k e))
 ·rw[j];exact qf h.cr (λk e=>a.block k (d (x:=M.cv.ownBlock) (by simp[vx]) k e))
 ·rw[j,s];exact qf h.ar (λk e=>a.block k (d (x:=M.av.ownBlock) (by simp[vx]) k e))
 rw[f];refine(h.gr x g).to (λi k o hi e=>⟨p i k o hi e,(h.site hi).frozen e,?_⟩);have q:=m.is i (by omega);unfold qdm at q;rw[if_pos (by rw[f];exact hi)]at q;exact RS.frozen q (p i k o hi e)
end
def qg6 (b:Nat) (M:RoM) (N:Nat) (Gs:Nat->Nat->Prop) (k:Nat):Prop:=ql b M k\/∃i,i<N/\Gs i k
def RW (w:World) (b:Nat) (G:Nat->Prop) (W:WoS):Prop:=∃M Gs,RWo w b M W Gs/\∀k,G k↔qg6 b M (W.n+W.c) Gs k
section
variable {w w':World} {b:Nat} {G:Nat->Prop} {M:RoM} {W:WoS} {Gs:Nat->Nat->Prop}
theorem RWo.ltF (h:RWo w b M W Gs):∀k,ql b M k->k<w.heap.size:=λk a=>(h.fam.free k a).1
theorem RWo.ltG (h:RWo w b M W Gs) (hi:i<W.n+W.c) (a:Gs i k):k<w.heap.size:=(qdm M W i).lt _ _ (h.fam.is i hi) k a
theorem RW.lt (h:RW w b G W):∀k,G k->k<w.heap.size:=by
 obtain⟨M,Gs,h,a⟩:=h;intro k c;rcases(a k).1 c with q|⟨i,hi,q⟩
 ·exact h.ltF k q
 exact h.ltG hi q
theorem RW.kept (h:RW w b G W) (f:∀k,G k->w'.heap[k]?=w.heap[k]?) (g:w.heap.size<=w'.heap.size):RW w' b G W:=by
 obtain⟨M,Gs,h,c⟩:=h;have l:=λk q=>f k ((c k).2 (.inl q))
 have a:∀{x:Option Nat},x∈vx b M->∀k,x=some k->w'.heap[k]?=w.heap[k]?:=λd k e=>by rw[e]at d;exact l k d
 refine⟨M,Gs,⟨h.box.kept (l b (by simp[ql,vx])) g,qf h.sr (a (by simp[vx])),qf h.wr (a (by simp[vx])),qf h.cr (a (by simp[vx])),qf h.ar (a (by simp[vx])),qf h.yr (a (by simp[vx])),h.nl,λx d=>(h.gr x d).to (λi k o hi e=>?_),h.fam.to (λj k m e=>f k ((c k).2 (.inr ⟨j,m,e⟩))) g (λk e=>⟨.inl e,jci (h.ltF k e) g⟩),h.ap⟩,c⟩;have:=(h.site hi).frozen e;exact⟨e,this,(f k ((c k).2 (.inr ⟨i,by omega,(h.site hi).frozenG e⟩))).trans this⟩
theorem RW.later (h:RW w b G W) (a:Bw w w'):RW w' b G W:=h.kept (λk c=>a.block k (h.lt k c)) a.size
end
def roP (b:Nat) (W:WoS):qfr:=⟨λw G=>RW w b G W,λ_ _ h=>h.lt,λ_ _ _ h=>h.kept⟩
def qae (w:World) (b:Nat) (G:Nat->Prop) (W':WoS) (w':World):Prop:=qbi (roP b W') w G w'
section
variable {w w':World} {b:Nat} {G:Nat->Prop} {M:RoM} {W:WoS} {Gs:Nat->Nat->Prop}
theorem qae.same (h:RW w b G W) (a:Bw w w'):qae w b G W w':=⟨G,h.later a,λ_ c=>.inl c,qc.ofBelow a⟩
theorem RWo.stepS (h:RWo w b M W Gs) (d:∀k,G k↔qg6 b M (W.n+W.c) Gs k) (hi:i<W.n) {S':qe} (t:RPo w (M.bp i) (Gs i) (M.F i) S' w'):qae w b G (setSite W i S') w':=by
 obtain⟨m,f,g,u,a⟩:=h.fam.stepG (ps':=qdm M (setSite W i S')) (i:=i) (by omega) (p:=qek (M.bp i) (M.F i) S') t (by show (if i<W.n then _ else _)=_;rw[if_pos hi];show qek (M.bp i) (M.F i) (jj W.S i S' i)=_;rw[qt]) (λj s v=>by
  show (if j<W.n then qek (M.bp j) (M.F j) (jj W.S i S' j)else _)=(if j<W.n then _ else _);rw[yq _ _ v]
  rfl)
 refine⟨qg6 b M (W.n+W.c) m,⟨M,m,h.keep (F':=M.F) u f (λ_ _ _ _ e=>e) rfl rfl rfl rfl rfl rfl,λ_=>jdl⟩,λk l=>?_,⟨a.os,a.tape,a.output,a.size,λk l y=>a.block k l (λe=>y ((d k).2 (.inr ⟨i,by omega,e⟩)))⟩⟩;rcases l with q|⟨j,s,q⟩
 ·exact .inl ((d k).2 (.inl q))
 rcases g j k q with r|r
 ·exact .inl ((d k).2 (.inr ⟨j,s,r⟩))
 exact .inr r
theorem RWo.stepC (h:RWo w b M W Gs) (l:∀k,G k↔qg6 b M (W.n+W.c) Gs k) (hi:i<W.c) {a:qy} (u:qbi (qjd (M.bs i) a) w (Gs (W.n+i)) w'):qae w b G (vf W i a) w':=by
 obtain⟨s,f,g,v,d⟩:=h.fam.stepG (ps':=qdm M (vf W i a)) (i:=W.n+i) (by omega) (p:=qjd (M.bs i) a) u (by show (if W.n+i<W.n then _ else _)=_;rw[if_neg (by omega)];show qjd (M.bs (W.n+i-W.n)) (jj W.ses i a (W.n+i-W.n))=_;rw[show W.n+i-W.n=i by omega,qt]) (λj t z=>by
  show (if j<W.n then _ else qjd (M.bs (j-W.n)) (jj W.ses i a (j-W.n)))=(if j<W.n then _ else _);by_cases q:j<W.n
  ·rw[if_pos q,if_pos q];rfl
  rw[if_neg q,if_neg q,yq _ _ (by omega)])
 refine⟨qg6 b M (W.n+W.c) s,⟨M,s,h.keep (F':=M.F) v f (λ_ _ _ _ e=>e) rfl rfl rfl rfl rfl rfl,λ_=>jdl⟩,λk m=>?_,⟨d.os,d.tape,d.output,d.size,λk m y=>d.block k m (λe=>y ((l k).2 (.inr ⟨W.n+i,by omega,e⟩)))⟩⟩;rcases m with q|⟨j,t,q⟩
 ·exact .inl ((l k).2 (.inl q))
 rcases g j k q with r|r
 ·exact .inl ((l k).2 (.inr ⟨j,t,r⟩))
 exact .inr r
end
end
theorem qqh (x:GrR):∀u∈qbj x,u.oneCell'=true:=by
 intro u a;rcases jdd.1 a with rfl|a
 ·rfl
 rcases jcf.1 a with q|q
 ·exact qih _ u q
 simp at q
 rcases q with rfl|rfl|rfl|rfl|rfl<;>rfl
theorem qra:(Tryz.prog.info? 108).map (λi=>(i.zero,i.size,i.bytes))=some (some (.agg #[U 0,U 0,U 0,U 0,U 0,U 0,U 0,U 0,U 0,.slice none 0 0,U 0,U 0,U 0,U 0,U 0]),15,136):=by kernel_rfl
section
variable {w w':World} {b:Nat} {G:Nat->Prop} {M:RoM} {W:WoS} {Gs:Nat->Nat->Prop}
theorem RWo.apY (h:RWo w b M W Gs):M.yv.ownBlock≠some b:=(jdv.1 h.ap).1 M.yv.ownBlock (by simp) b rfl
theorem RWo.mid (h:RWo w b M W Gs) {x:Option Nat} (a:x∈[M.sv.ownBlock,M.wv.ownBlock,M.cv.ownBlock,M.av.ownBlock]) {k:Nat} (e:x=some k):k<w.heap.size/\k≠b/\M.yv.ownBlock≠some k:=by
 have c:=(jdv.1 h.ap).1 x (List.mem_append_left [M.yv.ownBlock] a);have d:=(List.pairwise_append (l₁:=[M.sv.ownBlock,M.wv.ownBlock,M.cv.ownBlock,M.av.ownBlock]) (l₂:=[M.yv.ownBlock])).1 (jdv.1 h.ap).2;exact⟨h.ltF k (by show some k∈some b::([M.sv.ownBlock,M.wv.ownBlock,M.cv.ownBlock,M.av.ownBlock]++[M.yv.ownBlock]);rw[<-e];exact jdc _ (List.mem_append_left _ a)),λq=>c b rfl (by rw[e,q]),d.2.2 x a _ (by simp) k e⟩
theorem RWo.reway (h:RWo w b M W Gs) {a:Value} {c:List GrR} {p:List GrS} {s:Int} (d:∀k,k<w.heap.size->k≠b->M.yv.ownBlock≠some k->w'.heap[k]?=w.heap[k]?) (t:w.heap.size<=w'.heap.size)
 (C:qd w' b [M.sv,M.wv,M.cv,M.av,a,U s]) (u:w'.ownsRow 0 108 15 a c.length (qcm c)) (v:∀k,a.ownBlock=some k->M.yv.ownBlock=some k\/w.heap.size<=k) (D:c.map (·.g)=p) (f:∀x∈c,x∈M.l\/x.Ok w W.n M.F):
 RWo w' b {M with yv:=a,l:=c} {W with net:=p,lost:=s} Gs:=by
 have J:=h.box.lt;have z:=λj k m e=>d k (h.ltG m e) (λq=>(h.fam.free k (by rw[q];simp[ql,vx])).2 j m e) (λq=>(h.fam.free k (by unfold ql vx;rw[q];simp)).2 j m e);refine⟨C,qf h.sr (λk e=>?_),qf h.wr (λk e=>?_),qf h.cr (λk e=>?_),qf h.ar (λk e=>?_),u,D,λx E=>?_,?_,?_⟩
 ·have:=h.mid (by simp) e;exact d k this.1 this.2.1 this.2.2
 ·have:=h.mid (x:=M.wv.ownBlock) (by simp) e;exact d k this.1 this.2.1 this.2.2
 ·have:=h.mid (x:=M.cv.ownBlock) (by simp) e;exact d k this.1 this.2.1 this.2.2
 ·have:=h.mid (x:=M.av.ownBlock) (by simp) e;exact d k this.1 this.2.1 this.2.2
 ·have H:=(f x E).elim (h.gr x) id;exact H.to (λi k o hi e=>⟨e,(h.site hi).frozen e,(z i k (by omega) ((h.site hi).frozenG e)).trans ((h.site hi).frozen e)⟩)
 ·refine h.fam.to (X':=ql b {M with yv:=a,l:=c}) z t (λk e=>?_);have e:some k∈[some b,M.sv.ownBlock,M.wv.ownBlock,M.cv.ownBlock,M.av.ownBlock]++[a.ownBlock]:=e;rcases jcf.1 e with q|q
  ·have:ql b M k:=List.mem_append_left [M.yv.ownBlock] q;exact⟨.inl this,jci (h.ltF k this) t⟩
  have q:=(jcj.1 q).symm;refine⟨?_,(u.lt k q).2⟩;rcases v k q with r|r
  ·exact .inl (by unfold ql vx;rw[r];simp)
  exact .inr r
 have A:=(List.pairwise_append (l₁:=[some b,M.sv.ownBlock,M.wv.ownBlock,M.cv.ownBlock,M.av.ownBlock]) (l₂:=[M.yv.ownBlock])).1 h.ap;refine(List.pairwise_append (l₁:=[some b,M.sv.ownBlock,M.wv.ownBlock,M.cv.ownBlock,M.av.ownBlock]) (l₂:=[a.ownBlock])).2 ⟨A.1,List.pairwise_singleton _ _,λx f y I k e B=>?_⟩;rw[jcj.1 I]at B;rcases v k B with r|r
 ·exact A.2.2 x f _ (jcj.2 rfl) k e r
 have:ql b M k:=by rw[e]at f;exact List.mem_append_left [M.yv.ownBlock] f
 have:=h.ltF k this;omega
theorem RWo.later (h:RWo w b M W Gs) (a:Bw w w'):RWo w' b M W Gs:=
 h.reway (λk c _ _=>a.block k c) a.size (h.box.later a) (qf h.yr (λk e=>a.block k (h.yr.lt k e).2)) (λ_ e=>.inl e) h.nl (λ_ d=>.inl d)
theorem RWo.lostBox (h:RWo w b M W Gs) (a:Bw w w') (x:Int):RWo (w'.setCell (AD b 5) (U x)) b M {W with lost:=x} Gs:=by
 have d:∀k,k<w.heap.size->k≠b->(w'.setCell (AD b 5) (U x)).heap[k]?=w.heap[k]?:=λk c f=>(jce _ _ _ _ (λe=>f e)).trans (a.block k c);exact h.reway (λk c g _=>d k c g) (by have:=a.size;simpa[World.setCell]using this) ((h.box.later a).set 5 _ (by simp)) (qf h.yr (λk e=>d k (h.yr.lt k e).2 (λq=>h.apY (by rw[e,q])))) (λ_ e=>.inl e) h.nl (λ_ i=>.inl i)
def qc5 (w:World) (b:Nat) (M:RoM) (Gs:Nat->Nat->Prop) (W':WoS) (w':World):Prop:=
 ∃yv' l',RWo w' b {M with yv:=yv',l:=l'} W' Gs/\(∀k,yv'.ownBlock=some k->M.yv.ownBlock=some k\/w.heap.size<=k)/\qc (λk=>k=b\/M.yv.ownBlock=some k) w w'
theorem qc5.none (h:RWo w b M W Gs) (a:Bw w w'):qc5 w b M Gs W w':=⟨M.yv,M.l,h.later a,λ_ e=>.inl e,qc.ofBelow a⟩
theorem qc5.post {W':WoS} (h:qc5 w b M Gs W' w') (d:∀k,G k↔qg6 b M (W.n+W.c) Gs k) (j:W'.n=W.n) (l:W'.c=W.c):qae w b G W' w':=by
 obtain⟨m,u,o,p,a⟩:=h
 have s:ql b M b:=by simp[ql,vx]
 have g:∀k,M.yv.ownBlock=some k->ql b M k:=λk e=>by unfold ql vx;rw[e];simp
 refine⟨_,⟨_,Gs,o,λ_=>jdl⟩,λk f=>?_,⟨a.os,a.tape,a.output,a.size,λk f t=>a.block k f (λe=>t ((d k).2 (.inl (e.elim (λq=>by rw[q];exact s) (g k)))))⟩⟩;rw[j,l]at f;rcases f with e|⟨i,hi,e⟩
 ·have e:some k∈[some b,M.sv.ownBlock,M.wv.ownBlock,M.cv.ownBlock,M.av.ownBlock]++[m.ownBlock]:=e;rcases jcf.1 e with q|q
  ·exact .inl ((d k).2 (.inl (List.mem_append_left [M.yv.ownBlock] q)))
  rcases p k (jcj.1 q).symm with r|r
  ·exact .inl ((d k).2 (.inl (g k r)))
  exact .inr r
 exact .inl ((d k).2 (.inr ⟨i,hi,e⟩))
end
end Go.Proofs.YtoanjdndmlffdaaGreatDoor
