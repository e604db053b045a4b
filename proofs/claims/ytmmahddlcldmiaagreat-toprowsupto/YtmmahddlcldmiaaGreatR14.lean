/- What is proved here: TopRows' round where a message came: what it reads and writes in both maps, in any order, and what Proc and Events tell. No condition but what its calls are said to answer. -/
import Derived.Test.YtmmahddlcldmiaaGreatR13
namespace Go.Proofs.YtmmahddlcldmiaaGreat
open Go.RowKit
set_option maxHeartbeats 8000000
set_option maxRecDepth 100000
def sr:Code->Option Nat
 | .region k _ _=>some k
 | .seq a _=>sr a
 | .block _ c=>sr c
 | .scope c=>sr c
 | .loop c=>sr c
 | _=>none
def oT(n:Nat):Code->Option Code
 | .seq a b=>if sr a=some n then some (.seq a b)else match oT n a with
  | some c=>some c
  | none=>oT n b
 | .block _ c=>oT n c
 | .scope c=>oT n c
 | .loop c=>oT n c
 | .cond _ a b=>match oT n a with
  | some c=>some c
  | none=>oT n b
 | _=>none
noncomputable def rwArr:Code:=(Tryz.f4.body.bind (oT 23)).getD .skip
theorem Lz(a7 m r:Nat)(aX a b aY aZ:Int)(a0:aq)(a1:ar)(a2 a3:Nat)(bd:ar)(L cX:Nat)(k:Int)(ma:ar)(c ay:Nat)(P:bt)(j:ag)(ig:L<=1000000)(ij:c<=1000)(M:Hid (j.heap[r]?=some (.cells #[ab aX,ab a,ab b,ab aY,ab aZ,af a0,ae a1 a2 a3] 33)))(a9:Hid (QG a7 m r a b L k ma c ay P j)){bb bc:Act->bt}{dq:Exit->Act->bt}{c0 be bo bL x b5 cg cr cC bk bl bm bn bp bq br bz fs ft fu fv fw fx fy bM bN bO bP bQ bR bS bT bU bV bW bX bY bZ b0 b1 b2 b3 b4 b6 b7 b8 b9 ca cb cc cd ce cf ch ci cj ck cl cm cn co cp cq cs ct cu cv cw cx cy cz cA cB cD cE cF cG cH cI cJ cK cL cM cN cO cP cQ cR cS cT cU cV cW bf bg bh bi bj dt du dw dx dy dz dA dB dC dD dE dF dG dH dI dJ dK dL dM dN dO dP dQ dR dS dT dU dV dW dX dY dZ d0 d3 d4 d5 d6 d7 d8 d9 ea eb ec ed ee ef eg eh ei ej ek el em en eo ep eq er es et eu ev ew ex ey ez eA eB eC eD eE eF eG eH eI eJ eK eL eM eN eO eP eQ eR eS eT eU eV eW eX eY eZ e0 e1 e2 e3 e4 e5 e6 e7 e8 e9 fa fb fc fd fe ff fg fh fi fj fk fl fm fn fo fp fq fr bs bu bv bw bx bA bB bC bD bE bF bG bH bI bJ bK:au}(ba:∀a w,Code.wp Tryz.prog rwArr (Exit.inBlock 1 (Exit.then bb dq)) a w->bc a w)(HK3:∀{hN hO hP hQ hR hS hT fO fP fQ fR fS fT fU fV fW fX fY fZ f0 f1 f2 f3 f4 f5 f6 f7 f8 f9 ga gb gc gd ge gf gg gh gi gj gl gm gn go gp gq gr gs gt gu gv gw gx gy gz gA gB gC gD gE gF gG gH gI gJ gK gL gM gN gO gP gQ gR gS gT gU gV gW gX gY g0 g1 g2 g3 g4 g5 g6 g7 g8 g9 ha hb hc hd he hf hg hh hi hj hk hl hm hn ho hp hq hr hs ht hu hv hw hx hy hz hA hB hC hD hE hG hH hI hJ hK hL hM:au}(W:ag),Hid (P W)->bb ⟨List.toArray (c0::be::bo::bL::x::b5::cg::cr::cC::Value.pointer (some ⟨a7,0,none⟩)::Value.map (some m)::Value.map (some (m+1))::bk::bl::Value.pointer (some ⟨r,0,none⟩)::Value.slice bd L cX::bm::bn::Value.slice ma c ay::Value.int .i64 k::bp::bq::br::bz::hN::hO::hP::hQ::hR::hS::hT::bM::bN::bO::bP::bQ::bR::bS::bT::bU::bV::bW::bX::bY::bZ::b0::b1::b2::b3::b4::b6::b7::b8::b9::ca::cb::cc::cd::ce::cf::ch::ci::cj::ck::cl::cm::cn::co::cp::cq::cs::ct::cu::cv::cw::cx::cy::cz::cA::cB::cD::cE::cF::cG::cH::cI::cJ::cK::cL::cM::cN::cO::cP::cQ::cR::cS::cT::cU::cV::cW::bf::bg::bh::bi::bj::fO::fP::fQ::fR::fS::fT::fU::fV::fW::fX::fY::fZ::f0::f1::f2::f3::f4::f5::f6::f7::f8::f9::ga::gb::gc::gd::ge::gf::gg::gh::gi::gj::gl::gm::gn::go::gp::gq::gr::gs::gt::gu::gv::gw::gx::gy::gz::gA::gB::gC::gD::gE::gF::gG::gH::gI::gJ::gK::gL::gM::gN::gO::gP::gQ::gR::gS::gT::gU::gV::gW::gX::gY::g0::g1::g2::g3::g4::g5::g6::g7::g8::g9::ha::hb::hc::hd::he::hf::hg::hh::hi::hj::hk::hl::hm::hn::ho::hp::hq::hr::hs::ht::hu::hv::hw::hx::hy::hz::hA::hB::hC::hD::hE::hG::hH::hI::hJ::hK::hL::hM::bs::bu::bv::bw::bx::bA::bB::bC::bD::bE::bF::bG::bH::bI::bJ::bK::[]),[]⟩ W):bc ⟨List.toArray (c0::be::bo::bL::x::b5::cg::cr::cC::Value.pointer (some ⟨a7,0,none⟩)::Value.map (some m)::Value.map (some (m+1))::bk::bl::Value.pointer (some ⟨r,0,none⟩)::Value.slice bd L cX::bm::bn::Value.slice ma c ay::Value.int .i64 k::bp::bq::br::bz::fs::ft::fu::fv::fw::fx::fy::bM::bN::bO::bP::bQ::bR::bS::bT::bU::bV::bW::bX::bY::bZ::b0::b1::b2::b3::b4::b6::b7::b8::b9::ca::cb::cc::cd::ce::cf::ch::ci::cj::ck::cl::cm::cn::co::cp::cq::cs::ct::cu::cv::cw::cx::cy::cz::cA::cB::cD::cE::cF::cG::cH::cI::cJ::cK::cL::cM::cN::cO::cP::cQ::cR::cS::cT::cU::cV::cW::bf::bg::bh::bi::bj::dt::du::dw::dx::dy::dz::dA::dB::dC::dD::dE::dF::dG::dH::dI::dJ::dK::dL::dM::dN::dO::dP::dQ::dR::dS::dT::dU::dV::dW::dX::dY::dZ::d0::d3::d4::d5::d6::d7::d8::d9::ea::eb::ec::ed::ee::ef::eg::eh::ei::ej::ek::el::em::en::eo::ep::eq::er::es::et::eu::ev::ew::ex::ey::ez::eA::eB::eC::eD::eE::eF::eG::eH::eI::eJ::eK::eL::eM::eN::eO::eP::eQ::eR::eS::eT::eU::eV::eW::eX::eY::eZ::e0::e1::e2::e3::e4::e5::e6::e7::e8::e9::fa::fb::fc::fd::fe::ff::fg::fh::fi::fj::fk::fl::fm::fn::fo::fp::fq::fr::bs::bu::bv::bw::bx::bA::bB::bC::bD::bE::bF::bG::bH::bI::bJ::bK::[]),[]⟩ j:=by
 have aJ:Hid _:= @HK3;clear HK3;refine ba _ _ ?_
 conv=>arg 2;whnf
 clear ba;have d1:ai j r 1 (ab a):=ah M.out 1;have d2:ai j r 2 (ab b):=ah M.out 2;go_upto_region 24 with fail;generalize N:World.alloc _ _=u;have aQ:am j u:=by rw[<-N];exact aS _ _
 have ax:u.heap[j.heap.size]?=some (.cells #[ab a,ab b] 44):=by
  rw[<-N];exact aD _ _
 obtain⟨gk,iE,db,iC,t0,t1,t2,z,B,A,⟨c7,c8⟩,E⟩:=a9.out;obtain⟨⟨fG,fH,_⟩,_⟩:=E.out u.drew aQ.drew;have q:Hid (am j u.drew):=aQ.drew;have F:Hid (u.drew.heap[j.heap.size]?=some (.cells #[ab a,ab b] 44)):=ax;have O:ai u j.heap.size 0 (ab a):=ah ax 0;have Q:ai u j.heap.size 1 (ab b):=ah ax 1;have fI:¬(db:Int)<=(gk:Int):=by omega
 clear N aQ ax a9 d1 d2;generalize p:j.heap.size=i at*;replace p:=ap p;go_cut [117]from 105 to 224 (λhU l=>hU=.bool false/\l=u.drew)
 case first=>
  clear E M q F p;go_region_held3 (λW=>W.cell? ⟨i,0,none⟩=some (Value.int .i64 a)/\W.cell? ⟨i,1,none⟩=some (Value.int .i64 b)) ((go_keep;done)) (fail)
  all_goals
   go_wp2_with fail;go_meet;exact⟨by simp,rfl⟩
 case rest=>
 obtain⟨rfl,rfl⟩:=hcut;clear O Q fG fH fI;generalize u.drew=g at*;have aa:=ap (And.intro c7 c8);clear c7 c8;go_upto_region 26 with fail;go_cut [25]from 105 to 224 (λhX l=>hX=aH g.heap.size/\Hid (am g l/\l.heap[g.heap.size]?=some (.cells #[ab t0,ab t1,af t2,ae z B A] 31)))
 case first=>
  have aO:am g (g.alloc (.cells #[ab 0,ab 0,af ⟨#[]⟩,ae none 0 0] 31)):=aS _ _;obtain⟨⟨ir,it,im,io,ip,iq⟩,_⟩:=E.out g.drew q.out.drew;obtain⟨⟨iy,iz,iu,iv,iw,ix⟩,_⟩:=E.out (g.alloc (.cells #[ab 0,ab 0,af ⟨#[]⟩,ae none 0 0] 31)).drew (q.out.trans (aO.mono (by have:=q.out.size;have:=p.out;omega))).drew;have O:g.drew.cell? ⟨i,0,none⟩=some (ab a):=ah F.out 0;have Q:g.drew.cell? ⟨i,1,none⟩=some (ab b):=ah F.out 1;have aT:(g.alloc (.cells #[ab 0,ab 0,af ⟨#[]⟩,ae none 0 0] 31)).heap[i]?=some (.cells #[ab a,ab b] 44):=dv aO F.out;have az:(g.alloc (.cells #[ab 0,ab 0,af ⟨#[]⟩,ae none 0 0] 31)).drew.cell? ⟨i,0,none⟩=some (ab a):=ah aT 0;have df:(g.alloc (.cells #[ab 0,ab 0,af ⟨#[]⟩,ae none 0 0] 31)).drew.cell? ⟨i,1,none⟩=some (ab b):=ah aT 1;have ie:(gk:Int)<(db:Int):=by have:=aa.out.1;omega
  have fB:(0:Int)<=(gk:Int):=by omega
  clear aT E aO q F M aa p;go_region
  all_goals
   go_wp2_with fail;go_meet;exact⟨rfl,(aS _ _).drew,aD g _⟩
 case rest=>
 obtain⟨rfl,R⟩:=hcut;have av:=q.out.trans (R.out.1.mono (by have:=q.out.size;have:=p.out;omega));have T:wc.heap[i]?=some (.cells #[ab a,ab b] 44):=dv R.out.1 F.out;have aV:wc.heap[r]?=some (.cells #[ab aX,ab a,ab b,ab aY,ab aZ,af a0,ae a1 a2 a3] 33):=dv (by first|exact av|(have:=p.out;rwa [<-this]at av)) M.out;obtain⟨⟨fF,_⟩,iF,iD,dc,a8,fC,fD,c5,fE,aw⟩:=E.out wc.drew av.drew;have aU:=(c5 i (by have:=p.out;omega) (aI.1 T).1).trans T;have aL:Hid (a8.heap[r]?=some (.cells #[ab aX,ab a,ab b,ab aY,ab aZ,af a0,ae a1 a2 a3] 33)):=(aw.out.1 r (aj rfl) (aI.1 aV).1).trans aV;have n:Hid (a8.heap[g.heap.size]?=some (.cells #[ab t0,ab t1,af t2,ae z B A] 31)):=(aw.out.1 _ (ak (by have:=q.out.size;have:=p.out;omega)) (aI.1 R.out.2).1).trans R.out.2;have v:=ap aw.out.2;have O:wc.drew.cell? ⟨i,0,none⟩=some (ab a):=ah T 0;have Q:wc.drew.cell? ⟨i,1,none⟩=some (ab b):=ah T 1;have az:ai dc i 0 (ab a):=ah aU 0;have df:ai dc i 1 (ab b):=ah aU 1;have da:IntKind.i64.wrap ((gk:Int)+1)=(gk:Int)+1:=by
  have:=aa.out;rw[IntKind.wrap_i64];omega
 generalize g.heap.size=e at*;clear av T aV aU R F q M E aa c5 aw p;go_upto_region 27 with fail;go_cut [24]from 105 to 224 (λhW l=>hW=aH i/\l=a8)
 case first=>
  clear aL n v;go_region
  all_goals
   go_wp2_with fail;go_meet;exact⟨rfl,rfl⟩
 case rest=>
 obtain⟨rfl,rfl⟩:=hcut;clear fC fD fE da O Q az df fF;have d2:ai wc r 2 (ab b):=ah aL.out 2;unfold QH at v;go_wp2_with fail;refine v.out.mono ?_;rintro G dd ⟨iA,dg,dh,di,dj,dl,dk,fN,J,a6,t,rfl,il,Z⟩;clear v d2;go_upto_region 29 with fail;generalize N:World.alloc _ _=de;have aP:am dd de:=by rw[<-N];exact aS _ _
 have aF:=ap (Z.out.2 de aP);have aK:=ap (dv (Z.out.1.trans (aP.mono Z.out.1.size)) n.out);clear N aP Z n aL;generalize dd.heap.size=iB at*;go_cut [30]from 105 to 224 (λhY l=>∃al f b fz,hY=ae b (f-L) fz/\(L<=f/\f<=1000000)/\(L<f->∀d,al=some ⟨d,0,none⟩->b=some ⟨d,L*7,none⟩)/\Hid (l.heap[e]?=some (.cells #[ab t0,ab t1,af t2,ae z B A] 31)/\QI L f al k t ma c ay fN J a6 t0 t1 t2 z B A P l))
 case first=>
  go_wp2_with fail;refine aF.out.mono ?_;rintro G iG ⟨al,f,x,rfl,⟨a4,a5,fJ⟩,aB⟩;have aC:=ap (And.intro (dv aB.out.1 aK.out) aB.out.2);clear aF aB aK;rcases fJ with⟨rfl,rfl,rfl⟩|⟨⟨fB,rfl⟩,ao⟩
  ·obtain rfl:L=0:=by omega
   go_wp2_with fail;go_meet;exact⟨none,0,none,0,rfl,⟨by omega,by omega⟩,λC=>absurd C (Nat.lt_irrefl _),aC.out⟩
  ·have aM:(L:Int)<=(f:Int):=by omega
   have cZ:¬((f:Int)<(L:Int)):=by omega
   have an:(0:Int)<=(L:Int):=by omega
   have c1:¬((L:Int)<0):=by omega
   have c2:(f:Int)<=(x:Int):=by omega
   by_cases ii:x=L
   ·have c3:x-L=0:=by omega
    go_wp2_with fail;go_meet;exact⟨_,f,_,_,rfl,⟨a4,a5⟩,λC=>absurd C (by omega),aC.out⟩
   ·have c3:¬x=L:=by omega
    have fA:¬x-L=0:=by omega
    go_wp2_with fail;go_meet;exact⟨_,f,_,_,rfl,⟨a4,a5⟩,λ_ d G=>by simp only[gZ,Addr.mk.injEq]at G;rw[G.1],aC.out⟩
 case rest=>
 obtain⟨al,f,ic,id,rfl,⟨a4,a5⟩,c6,aG⟩:=hcut;clear aF aK;have n:=ap aG.out.1;obtain⟨V,X,Y⟩:=aG.out.2;have K:=ap c6;clear aG c6;go_upto_region 32 with fail;go_cut [163]from 105 to 224 (λhV l=>hV=.bool (decide (k≠0\/t=0/\J=c))/\l=wc)
 case first=>
  clear V X Y n K;by_cases aN:k=0
  ·subst aN;by_cases s:t=0
   ·subst s;by_cases ao:J=c
    ·subst ao;go_wp2_with fail;go_meet;exact⟨by simp,rfl⟩
    ·have ib:((J:Int)==(c:Int))=false:=by simpa using λC=>ao (by omega)
     go_wp2_with fail;go_meet;exact⟨by simp[ao],rfl⟩
   ·have ds:(t==0)=false:=by simpa using s
    go_wp2_with fail;go_meet;exact⟨by simp[s],rfl⟩
  ·have ia:(k==0)=false:=by simpa using aN
   go_wp2_with fail;go_meet;exact⟨by simp[aN],rfl⟩
 case rest=>
 obtain⟨rfl,rfl⟩:=hcut;go_upto_if 163 with fail;obtain⟨cY,U⟩:∃cY,cY=decide (k≠0\/t=0/\J=c):=⟨_,rfl⟩;rw[<-U];generalize wc=W at*;by_cases y:k≠0\/t=0/\J=c
 ·obtain⟨rfl,d,O,Q,az,h3,h5,h4,⟨rfl,I⟩,dn⟩:=V y;obtain rfl:=K.out (by omega) d rfl;rw[jb y]at U;subst U;have c9:L+1-L=1:=by omega
  rw[c9];have S:=ap I;have H:∀h,am W h->ai h e 0 (ab t0)/\ai h e 1 (ab t1)/\ai h e 2 (af t2)/\ai h e 3 (ae z B A):=λh aR=>by
   have:=dv aR n.out;exact⟨ah this 0,ah this 1,ah this 2,ah this 3⟩
  have ad:=ap H;have v:Hid (am W W.drew):=(aA _ _).drew;obtain⟨fM,hZ,h0,h1,h2⟩:=I W (aA _ _);obtain⟨h6,h7,h8,h9⟩:=H W (aA _ _);unfold j9 at fM S;clear V X Y y c9 K n I H;go_wp2_with fail;go_region_held3 (λW=>(W.cell? ⟨d,L*7,none⟩=some (af ⟨#[108,111,115,116]⟩)/\W.cell? ⟨d,L*7+3,none⟩=some (ab O)/\W.cell? ⟨d,L*7+3+1,none⟩=some (ab Q)/\W.cell? ⟨d,L*7+3+2,none⟩=some (af az)/\W.cell? ⟨d,L*7+3+3,none⟩=some (ae h3 h5 h4))/\W.cell? ⟨e,0,none⟩=some (ab t0)/\W.cell? ⟨e,1,none⟩=some (ab t1)/\W.cell? ⟨e,2,none⟩=some (af t2)/\W.cell? ⟨e,3,none⟩=some (ae z B A)) (first|(go_keep;done)|exact⟨S.out _ D.out.1,ad.out _ D.out.1⟩) ((go_at_call 16;refine(dn.out _ v.out).mono ?_;rintro G dr ⟨rfl,D⟩))
  all_goals
   go_wp2_with fail;exact aJ.out _ D.out.2
 have fK:k=0:=by
  by_cases c4:k=0
  ·exact c4
  ·exact absurd (aj c4) y
 have aW:¬(t=0/\J=c):=λC=>y (ak C);rw[decide_eq_false y]at U;subst U fK;by_cases s:t=0
 ·obtain⟨⟨rfl,ik⟩,d,o,dg,dh,di,dj,dl,dk,⟨rfl,I⟩,dp⟩:=X rfl s λC=>aW ⟨s,C⟩;subst s;have S:=ap I;have H:∀h,am W h->ai h e 0 (ab t0)/\ai h e 1 (ab t1)/\ai h e 2 (af t2)/\ai h e 3 (ae z B A):=λh aR=>by
   have:=dv aR n.out;exact⟨ah this 0,ah this 1,ah this 2,ah this 3⟩
  have ad:=ap H;have v:Hid (am W W.drew):=(aA _ _).drew;obtain⟨hZ,h0,h1,h2⟩:=I W (aA _ _);obtain⟨h6,h7,h8,h9⟩:=H W (aA _ _);have da:IntKind.i64.wrap ((c:Int)+1)=(c:Int)+1:=by
   rw[IntKind.wrap_i64];omega
  have aM:(0:Int)<=(c:Int):=by omega
  have cZ:(c:Int)<=(a6:Int):=by omega
  have an:(c:Int)<(c:Int)+1:=by omega
  have fA:c<c+1:=by omega
  have c1:¬(a6:Int)<(c:Int):=by omega
  have c2:¬(c:Int)<0:=by omega
  clear V X Y y aW K n I H;go_wp2_with fail;go_region_held3 (λW=>(W.cell? ⟨d,o+c*4,none⟩=some (ab dg)/\W.cell? ⟨d,o+c*4+1,none⟩=some (ab dh)/\W.cell? ⟨d,o+c*4+2,none⟩=some (af di)/\W.cell? ⟨d,o+c*4+3,none⟩=some (ae dj dl dk))/\W.cell? ⟨e,0,none⟩=some (ab t0)/\W.cell? ⟨e,1,none⟩=some (ab t1)/\W.cell? ⟨e,2,none⟩=some (af t2)/\W.cell? ⟨e,3,none⟩=some (ae z B A)) (first|(go_keep;done)|exact⟨S.out _ D.out.1,ad.out _ D.out.1⟩|exact⟨S.out _ aE.out.1,ad.out _ aE.out.1⟩) ((first|(go_at_call 17;refine(dp.out _ v.out).mono ?_;rintro G dr ⟨rfl,D⟩)|(go_at_call 16;refine D.out.2.mono ?_;rintro G h ⟨rfl,aE⟩)))
  all_goals
   go_wp2_with fail;exact aJ.out _ aE.out.2
 ·obtain⟨fL,d,⟨rfl,aM,cZ⟩,dm⟩:=Y rfl s;obtain rfl:=K.out fL d rfl;have ds:(t==0)=false:=by simpa using s
  have an:¬((f-L:Nat):Int)=0:=by omega
  have c1:(((f-L:Nat):Int)==0)=false:=by simpa using an
  have c2:(0:Int)<((f-L:Nat):Int):=by omega
  have c3:0<f-L:=by omega
  unfold tI at aM;clear V X Y y aW K n an;go_wp2_with fail;exact aJ.out _ dm
end Go.Proofs.YtmmahddlcldmiaaGreat
