/- What is proved here: TopRows' round where a message came: what it reads and writes in both maps, in any order, and what Proc and Events tell. No condition but what its calls are said to answer. -/
import Derived.Test.YtmmahddlcldmiaaGreatR13
namespace Go.Proofs.YtmmahddlcldmiaaGreat
open Go.RowKit
set_option maxHeartbeats 8000000
set_option maxRecDepth 100000
def sk:Code->Option Nat
 | .region k _ _=>some k
 | .seq a _=>sk a
 | .block _ c=>sk c
 | .scope c=>sk c
 | .loop c=>sk c
 | _=>none
def oO(n:Nat):Code->Option Code
 | .seq a b=>if sk a=some n then some (.seq a b)else match oO n a with
  | some c=>some c
  | none=>oO n b
 | .block _ c=>oO n c
 | .scope c=>oO n c
 | .loop c=>oO n c
 | .cond _ a b=>match oO n a with
  | some c=>some c
  | none=>oO n b
 | _=>none
noncomputable def rwArr:Code:=(Tryz.f4.body.bind (oO 23)).getD .skip
theorem Ly(a7 m r:Nat)(aX a b aY aZ:Int)(a0:ap)(a1:au)(a2 a3:Nat)(bd:au)(L cW:Nat)(k:Int)(ma:au)(c ax:Nat)(P:ag->Prop)(j:ag)(ie:L<=1000000)(ii:c<=1000)(M:Hid (j.heap[r]?=some (.cells #[ab aX,ab a,ab b,ab aY,ab aZ,af a0,ae a1 a2 a3] 33)))(a9:Hid (QF a7 m r a b L k ma c ax P j)){bb bc:Act->ag->Prop}{dq:Exit->Act->ag->Prop}{c0 be bo bK x b4 cf cq cB bk bl bm bn bp bq br bx fr fs ft fu fv fw fx bL bM bN bO bP bQ bR bS bT bU bV bW bX bY bZ b0 b1 b2 b3 b5 b6 b7 b8 b9 ca cb cc cd ce cg ch ci cj ck cl cm cn co cp cr cs ct cu cv cw cx cy cz cA cC cD cE cF cG cH cI cJ cK cL cM cN cO cP cQ cR cS cT cU cV bf bg bh bi bj dt du dv dw dx dy dz dA dB dC dD dE dF dG dH dI dJ dK dL dM dN dO dP dQ dR dS dT dU dV dW dX dY dZ d0 d3 d4 d5 d6 d7 d8 d9 ea eb ec ed ee ef eg eh ei ej ek el em en eo ep eq er es et eu ev ew ex ey ez eA eB eC eD eE eF eG eH eI eJ eK eL eM eN eO eP eQ eR eS eT eU eV eW eX eY eZ e0 e1 e2 e3 e4 e5 e6 e7 e8 e9 fa fb fc fd fe ff fg fh fi fj fk fl fm fn fo fp fq bs bt bu bv bw bz bA bB bC bD bE bF bG bH bI bJ:ar}(ba:∀a w,Code.wp Tryz.prog rwArr (Exit.inBlock 1 (Exit.then bb dq)) a w->bc a w)(aG:Hid (∀(hM hN hO hP hQ hR hS fN fO fP fQ fR fS fT fU fV fW fX fY fZ f0 f1 f2 f3 f4 f5 f6 f7 f8 f9 ga gb gc gd ge gf gg gh gi gj gl gm gn go gp gq gr gs gt gu gv gw gx gy gz gA gB gC gD gE gF gG gH gI gJ gK gL gM gN gO gP gQ gR gS gT gV gW gX gY gZ g0 g1 g2 g3 g4 g5 g6 g7 g8 g9 ha hb hc hd he hf hg hh hi hj hk hl hm hn ho hp hq hr hs ht hu hv hw hx hy hz hA hB hC hD hE hG hH hI hJ hK hL:ar)(W:ag),Hid (P W)->bb ⟨List.toArray (c0::be::bo::bK::x::b4::cf::cq::cB::Value.pointer (some ⟨a7,0,none⟩)::Value.map (some m)::Value.map (some (m+1))::bk::bl::Value.pointer (some ⟨r,0,none⟩)::Value.slice bd L cW::bm::bn::Value.slice ma c ax::Value.int .i64 k::bp::bq::br::bx::hM::hN::hO::hP::hQ::hR::hS::bL::bM::bN::bO::bP::bQ::bR::bS::bT::bU::bV::bW::bX::bY::bZ::b0::b1::b2::b3::b5::b6::b7::b8::b9::ca::cb::cc::cd::ce::cg::ch::ci::cj::ck::cl::cm::cn::co::cp::cr::cs::ct::cu::cv::cw::cx::cy::cz::cA::cC::cD::cE::cF::cG::cH::cI::cJ::cK::cL::cM::cN::cO::cP::cQ::cR::cS::cT::cU::cV::bf::bg::bh::bi::bj::fN::fO::fP::fQ::fR::fS::fT::fU::fV::fW::fX::fY::fZ::f0::f1::f2::f3::f4::f5::f6::f7::f8::f9::ga::gb::gc::gd::ge::gf::gg::gh::gi::gj::gl::gm::gn::go::gp::gq::gr::gs::gt::gu::gv::gw::gx::gy::gz::gA::gB::gC::gD::gE::gF::gG::gH::gI::gJ::gK::gL::gM::gN::gO::gP::gQ::gR::gS::gT::gV::gW::gX::gY::gZ::g0::g1::g2::g3::g4::g5::g6::g7::g8::g9::ha::hb::hc::hd::he::hf::hg::hh::hi::hj::hk::hl::hm::hn::ho::hp::hq::hr::hs::ht::hu::hv::hw::hx::hy::hz::hA::hB::hC::hD::hE::hG::hH::hI::hJ::hK::hL::bs::bt::bu::bv::bw::bz::bA::bB::bC::bD::bE::bF::bG::bH::bI::bJ::[]),[]⟩ W)):bc ⟨List.toArray (c0::be::bo::bK::x::b4::cf::cq::cB::Value.pointer (some ⟨a7,0,none⟩)::Value.map (some m)::Value.map (some (m+1))::bk::bl::Value.pointer (some ⟨r,0,none⟩)::Value.slice bd L cW::bm::bn::Value.slice ma c ax::Value.int .i64 k::bp::bq::br::bx::fr::fs::ft::fu::fv::fw::fx::bL::bM::bN::bO::bP::bQ::bR::bS::bT::bU::bV::bW::bX::bY::bZ::b0::b1::b2::b3::b5::b6::b7::b8::b9::ca::cb::cc::cd::ce::cg::ch::ci::cj::ck::cl::cm::cn::co::cp::cr::cs::ct::cu::cv::cw::cx::cy::cz::cA::cC::cD::cE::cF::cG::cH::cI::cJ::cK::cL::cM::cN::cO::cP::cQ::cR::cS::cT::cU::cV::bf::bg::bh::bi::bj::dt::du::dv::dw::dx::dy::dz::dA::dB::dC::dD::dE::dF::dG::dH::dI::dJ::dK::dL::dM::dN::dO::dP::dQ::dR::dS::dT::dU::dV::dW::dX::dY::dZ::d0::d3::d4::d5::d6::d7::d8::d9::ea::eb::ec::ed::ee::ef::eg::eh::ei::ej::ek::el::em::en::eo::ep::eq::er::es::et::eu::ev::ew::ex::ey::ez::eA::eB::eC::eD::eE::eF::eG::eH::eI::eJ::eK::eL::eM::eN::eO::eP::eQ::eR::eS::eT::eU::eV::eW::eX::eY::eZ::e0::e1::e2::e3::e4::e5::e6::e7::e8::e9::fa::fb::fc::fd::fe::ff::fg::fh::fi::fj::fk::fl::fm::fn::fo::fp::fq::bs::bt::bu::bv::bw::bz::bA::bB::bC::bD::bE::bF::bG::bH::bI::bJ::[]),[]⟩ j:=by
 refine ba _ _ ?_
 conv=>arg 2;whnf
 clear ba;have d1:ah j r 1 (ab a):=ai M.out 1;have d2:ah j r 2 (ab b):=ai M.out 2;go_upto_region 24 with fail;generalize N:World.alloc _ _=u;have aP:am j u:=by rw[<-N];exact aS _ _
 have aw:u.heap[j.heap.size]?=some (.cells #[ab a,ab b] 44):=by
  rw[<-N];exact aD _ _
 obtain⟨gk,iD,da,iB,t0,t1,t2,z,B,A,⟨c6,c7⟩,E⟩:=a9.out;obtain⟨⟨fF,fG,_⟩,_⟩:=E.out u.drew aP.drew;have q:Hid (am j u.drew):=aP.drew;have F:Hid (u.drew.heap[j.heap.size]?=some (.cells #[ab a,ab b] 44)):=aw;have O:ah u j.heap.size 0 (ab a):=ai aw 0;have Q:ah u j.heap.size 1 (ab b):=ai aw 1;have fH:¬(da:Int)<=(gk:Int):=by omega
 clear N aP aw a9 d1 d2;generalize p:j.heap.size=g at*;replace p:=aq p;go_cut [117]from 105 to 224 (λhT l=>hT=.bool false/\l=u.drew)
 case first=>
  clear E M q F p;go_region_held3 (λW=>ah W g 0 (Value.int .i64 a)/\ah W g 1 (Value.int .i64 b)) ((go_keep;done)) (fail)
  all_goals
   go_wp2_with fail;go_meet;exact⟨by simp,rfl⟩
 case rest=>
 obtain⟨rfl,rfl⟩:=hcut;clear O Q fF fG fH;generalize u.drew=h at*;have aa:=aq (And.intro c6 c7);clear c6 c7;go_upto_region 26 with fail;go_cut [25]from 105 to 224 (λhW l=>hW=aH h.heap.size/\Hid (am h l/\l.heap[h.heap.size]?=some (.cells #[ab t0,ab t1,af t2,ae z B A] 31)))
 case first=>
  have aN:am h (h.alloc (.cells #[ab 0,ab 0,af ⟨#[]⟩,ae none 0 0] 31)):=aS _ _;obtain⟨⟨iq,ir,il,im,io,ip⟩,_⟩:=E.out h.drew q.out.drew;obtain⟨⟨ix,iy,it,iu,iv,iw⟩,_⟩:=E.out (h.alloc (.cells #[ab 0,ab 0,af ⟨#[]⟩,ae none 0 0] 31)).drew (q.out.trans (aN.mono (by have:=q.out.size;have:=p.out;omega))).drew;have O:h.drew.cell? ⟨g,0,none⟩=some (ab a):=ai F.out 0;have Q:h.drew.cell? ⟨g,1,none⟩=some (ab b):=ai F.out 1;have aT:(h.alloc (.cells #[ab 0,ab 0,af ⟨#[]⟩,ae none 0 0] 31)).heap[g]?=some (.cells #[ab a,ab b] 44):=dp aN F.out;have ay:(h.alloc (.cells #[ab 0,ab 0,af ⟨#[]⟩,ae none 0 0] 31)).drew.cell? ⟨g,0,none⟩=some (ab a):=ai aT 0;have de:(h.alloc (.cells #[ab 0,ab 0,af ⟨#[]⟩,ae none 0 0] 31)).drew.cell? ⟨g,1,none⟩=some (ab b):=ai aT 1;have id:(gk:Int)<(da:Int):=by have:=aa.out.1;omega
  have fA:(0:Int)<=(gk:Int):=by omega
  clear aT E aN q F M aa p;go_region
  all_goals
   go_wp2_with fail;go_meet;exact⟨rfl,(aS _ _).drew,aD h _⟩
 case rest=>
 obtain⟨rfl,R⟩:=hcut;have aQ:Below g j wc:=q.out.trans (R.out.1.mono (by have:=q.out.size;have:=p.out;omega));have T:wc.heap[g]?=some (.cells #[ab a,ab b] 44):=dp R.out.1 F.out;have aV:wc.heap[r]?=some (.cells #[ab aX,ab a,ab b,ab aY,ab aZ,af a0,ae a1 a2 a3] 33):=dp (by have:=p.out;rwa [<-this]at aQ) M.out;obtain⟨⟨fE,_⟩,iE,iC,db,a8,fB,fC,c4,fD,av⟩:=E.out wc.drew aQ.drew;have aU:=(c4 g (by have:=p.out;omega) (aI.1 T).1).trans T;have aK:Hid (a8.heap[r]?=some (.cells #[ab aX,ab a,ab b,ab aY,ab aZ,af a0,ae a1 a2 a3] 33)):=(av.out.1 r (aj rfl) (aI.1 aV).1).trans aV;have n:Hid (a8.heap[h.heap.size]?=some (.cells #[ab t0,ab t1,af t2,ae z B A] 31)):=(av.out.1 _ (ak (by have:=q.out.size;have:=p.out;omega)) (aI.1 R.out.2).1).trans R.out.2;have v:=aq av.out.2;have O:wc.drew.cell? ⟨g,0,none⟩=some (ab a):=ai T 0;have Q:wc.drew.cell? ⟨g,1,none⟩=some (ab b):=ai T 1;have ay:ah db g 0 (ab a):=ai aU 0;have de:ah db g 1 (ab b):=ai aU 1;have c9:IntKind.i64.wrap ((gk:Int)+1)=(gk:Int)+1:=by
  have:=aa.out;rw[IntKind.wrap_i64];omega
 generalize h.heap.size=e at*;clear aQ T aV aU R F q M E aa c4 av p;go_upto_region 27 with fail;go_cut [24]from 105 to 224 (λhV l=>hV=aH g/\l=a8)
 case first=>
  clear aK n v;go_region
  all_goals
   go_wp2_with fail;go_meet;exact⟨rfl,rfl⟩
 case rest=>
 obtain⟨rfl,rfl⟩:=hcut;clear fB fC fD c9 O Q ay de fE;have d2:ah wc r 2 (ab b):=ai aK.out 2;unfold QG at v;go_wp2_with fail;refine v.out.mono ?_;rintro G dc ⟨iz,df,dg,dh,di,dk,dj,fM,J,a6,t,rfl,ik,Z⟩;clear v d2;go_upto_region 29 with fail;generalize N:World.alloc _ _=dd;have aO:am dc dd:=by rw[<-N];exact aS _ _
 have aE:=aq (Z.out.2 dd aO);have aJ:=aq (dp (Z.out.1.trans (aO.mono Z.out.1.size)) n.out);clear N aO Z n aK;generalize dc.heap.size=iA at*;go_cut [30]from 105 to 224 (λhX l=>∃al f b fy,hX=ae b (f-L) fy/\(L<=f/\f<=1000000)/\(L<f->∀d,al=some ⟨d,0,none⟩->b=some ⟨d,L*7,none⟩)/\Hid (l.heap[e]?=some (.cells #[ab t0,ab t1,af t2,ae z B A] 31)/\QH L f al k t ma c ax fM J a6 t0 t1 t2 z B A P l))
 case first=>
  go_wp2_with fail;refine aE.out.mono ?_;rintro G iF ⟨al,f,x,rfl,⟨a4,a5,fI⟩,az⟩;have aB:=aq (And.intro (dp az.out.1 aJ.out) az.out.2);clear aE az aJ;rcases fI with⟨rfl,rfl,rfl⟩|⟨⟨fA,rfl⟩,ao⟩
  ·obtain rfl:L=0:=by omega
   go_wp2_with fail;go_meet;exact⟨none,0,none,0,rfl,⟨by omega,by omega⟩,λC=>absurd C (Nat.lt_irrefl _),aB.out⟩
  ·have aL:(L:Int)<=(f:Int):=by omega
   have cY:¬((f:Int)<(L:Int)):=by omega
   have an:(0:Int)<=(L:Int):=by omega
   have cZ:¬((L:Int)<0):=by omega
   have c1:(f:Int)<=(x:Int):=by omega
   by_cases ig:x=L
   ·have c2:x-L=0:=by omega
    go_wp2_with fail;go_meet;exact⟨_,f,_,_,rfl,⟨a4,a5⟩,λC=>absurd C (by omega),aB.out⟩
   ·have c2:¬x=L:=by omega
    have fz:¬x-L=0:=by omega
    go_wp2_with fail;go_meet;exact⟨_,f,_,_,rfl,⟨a4,a5⟩,λ_ d G=>by simp only[gU,Addr.mk.injEq]at G;rw[G.1],aB.out⟩
 case rest=>
 obtain⟨al,f,ib,ic,rfl,⟨a4,a5⟩,c5,aF⟩:=hcut;clear aE aJ;have n:=aq aF.out.1;obtain⟨V,X,Y⟩:=aF.out.2;have K:=aq c5;clear aF c5;go_upto_region 32 with fail;go_cut [163]from 105 to 224 (λhU l=>hU=.bool (decide (k≠0\/t=0/\J=c))/\l=wc)
 case first=>
  clear V X Y n K;by_cases aM:k=0
  ·subst aM;by_cases s:t=0
   ·subst s;by_cases ao:J=c
    ·subst ao;go_wp2_with fail;go_meet;exact⟨by simp,rfl⟩
    ·have ia:((J:Int)==(c:Int))=false:=by simpa using λC=>ao (by omega)
     go_wp2_with fail;go_meet;exact⟨by simp[ao],rfl⟩
   ·have ds:(t==0)=false:=by simpa using s
    go_wp2_with fail;go_meet;exact⟨by simp[s],rfl⟩
  ·have h9:(k==0)=false:=by simpa using aM
   go_wp2_with fail;go_meet;exact⟨by simp[aM],rfl⟩
 case rest=>
 obtain⟨rfl,rfl⟩:=hcut;go_upto_if 163 with fail;obtain⟨cX,U⟩:∃cX,cX=decide (k≠0\/t=0/\J=c):=⟨_,rfl⟩;rw[<-U];generalize wc=W at*;by_cases y:k≠0\/t=0/\J=c
 ·obtain⟨rfl,d,O,Q,ay,h2,h4,h3,⟨rfl,I⟩,dm⟩:=V y;obtain rfl:=K.out (by omega) d rfl;rw[iW y]at U;subst U;have c8:L+1-L=1:=by omega
  rw[c8];have S:=aq I;have H:∀i,am W i->ah i e 0 (ab t0)/\ah i e 1 (ab t1)/\ah i e 2 (af t2)/\ah i e 3 (ae z B A):=λi aR=>by
   have:=dp aR n.out;exact⟨ai this 0,ai this 1,ai this 2,ai this 3⟩
  have ad:=aq H;have v:Hid (am W W.drew):=(aA _ _).drew;obtain⟨fL,hY,hZ,h0,h1⟩:=I W (aA _ _);obtain⟨h5,h6,h7,h8⟩:=H W (aA _ _);unfold jX at fL S;clear V X Y y c8 K n I H;go_wp2_with fail;go_region_held3 (λW=>(ah W d (L*7) (af ⟨#[108,111,115,116]⟩)/\ah W d (L*7+3) (ab O)/\ah W d (L*7+3+1) (ab Q)/\ah W d (L*7+3+2) (af ay)/\ah W d (L*7+3+3) (ae h2 h4 h3))/\ah W e 0 (ab t0)/\ah W e 1 (ab t1)/\ah W e 2 (af t2)/\ah W e 3 (ae z B A)) (first|(go_keep;done)|exact⟨S.out _ D.out.1,ad.out _ D.out.1⟩) ((go_at_call 16;refine(dm.out _ v.out).mono ?_;rintro G dr ⟨rfl,D⟩))
  all_goals
   go_wp2_with fail;exact aG.out _ _ _ _ _ _ _ _ _ _ _ _ _ _ _ _ _ _ _ _ _ _ _ _ _ _ _ _ _ _ _ _ _ _ _ _ _ _ _ _ _ _ _ _ _ _ _ _ _ _ _ _ _ _ _ _ _ _ _ _ _ _ _ _ _ _ _ _ _ _ _ _ _ _ _ _ _ _ _ _ _ _ _ _ _ _ _ _ _ _ _ _ _ _ _ _ _ _ _ _ _ _ _ _ _ _ _ _ _ _ _ _ _ _ _ _ _ _ _ _ _ _ _ _ _ _ _ _ D.out.2
 have fJ:k=0:=by
  by_cases c3:k=0
  ·exact c3
  ·exact absurd (aj c3) y
 have aW:¬(t=0/\J=c):=λC=>y (ak C);rw[decide_eq_false y]at U;subst U fJ;by_cases s:t=0
 ·obtain⟨⟨rfl,ij⟩,d,o,df,dg,dh,di,dk,dj,⟨rfl,I⟩,dn⟩:=X rfl s λC=>aW ⟨s,C⟩;subst s;have S:=aq I;have H:∀i,am W i->ah i e 0 (ab t0)/\ah i e 1 (ab t1)/\ah i e 2 (af t2)/\ah i e 3 (ae z B A):=λi aR=>by
   have:=dp aR n.out;exact⟨ai this 0,ai this 1,ai this 2,ai this 3⟩
  have ad:=aq H;have v:Hid (am W W.drew):=(aA _ _).drew;obtain⟨hY,hZ,h0,h1⟩:=I W (aA _ _);obtain⟨h5,h6,h7,h8⟩:=H W (aA _ _);have c9:IntKind.i64.wrap ((c:Int)+1)=(c:Int)+1:=by
   rw[IntKind.wrap_i64];omega
  have aL:(0:Int)<=(c:Int):=by omega
  have cY:(c:Int)<=(a6:Int):=by omega
  have an:(c:Int)<(c:Int)+1:=by omega
  have fz:c<c+1:=by omega
  have cZ:¬(a6:Int)<(c:Int):=by omega
  have c1:¬(c:Int)<0:=by omega
  clear V X Y y aW K n I H;go_wp2_with fail;go_region_held3 (λW=>(ah W d (o+c*4) (ab df)/\ah W d (o+c*4+1) (ab dg)/\ah W d (o+c*4+2) (af dh)/\ah W d (o+c*4+3) (ae di dk dj))/\ah W e 0 (ab t0)/\ah W e 1 (ab t1)/\ah W e 2 (af t2)/\ah W e 3 (ae z B A)) (first|(go_keep;done)|exact⟨S.out _ D.out.1,ad.out _ D.out.1⟩|exact⟨S.out _ aC.out.1,ad.out _ aC.out.1⟩) ((first|(go_at_call 17;refine(dn.out _ v.out).mono ?_;rintro G dr ⟨rfl,D⟩)|(go_at_call 16;refine D.out.2.mono ?_;rintro G i ⟨rfl,aC⟩)))
  all_goals
   go_wp2_with fail;exact aG.out _ _ _ _ _ _ _ _ _ _ _ _ _ _ _ _ _ _ _ _ _ _ _ _ _ _ _ _ _ _ _ _ _ _ _ _ _ _ _ _ _ _ _ _ _ _ _ _ _ _ _ _ _ _ _ _ _ _ _ _ _ _ _ _ _ _ _ _ _ _ _ _ _ _ _ _ _ _ _ _ _ _ _ _ _ _ _ _ _ _ _ _ _ _ _ _ _ _ _ _ _ _ _ _ _ _ _ _ _ _ _ _ _ _ _ _ _ _ _ _ _ _ _ _ _ _ _ _ aC.out.2
 ·obtain⟨fK,d,⟨rfl,aL,cY⟩,dl⟩:=Y rfl s;obtain rfl:=K.out fK d rfl;have ds:(t==0)=false:=by simpa using s
  have an:¬((f-L:Nat):Int)=0:=by omega
  have cZ:(((f-L:Nat):Int)==0)=false:=by simpa using an
  have c1:(0:Int)<((f-L:Nat):Int):=by omega
  have c2:0<f-L:=by omega
  unfold tF at aL;clear V X Y y aW K n an;go_wp2_with fail;exact aG.out _ _ _ _ _ _ _ _ _ _ _ _ _ _ _ _ _ _ _ _ _ _ _ _ _ _ _ _ _ _ _ _ _ _ _ _ _ _ _ _ _ _ _ _ _ _ _ _ _ _ _ _ _ _ _ _ _ _ _ _ _ _ _ _ _ _ _ _ _ _ _ _ _ _ _ _ _ _ _ _ _ _ _ _ _ _ _ _ _ _ _ _ _ _ _ _ _ _ _ _ _ _ _ _ _ _ _ _ _ _ _ _ _ _ _ _ _ _ _ _ _ _ _ _ _ _ _ _ dl
end Go.Proofs.YtmmahddlcldmiaaGreat
