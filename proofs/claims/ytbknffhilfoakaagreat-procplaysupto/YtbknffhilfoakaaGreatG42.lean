/- What is proved here: the middle loop of the document's To, over any clauses of a behaviour: it appends what tells each clause, and says whether all are in form. Condition: the behaviour lies in memory. -/
import Derived.Test.YtbknffhilfoakaaGreatG41
import Derived.Deep.DeepCutAuto
namespace Go.Proofs.YtbknffhilfoakaaGreat
open Go.RowKit
set_option maxHeartbeats 40000000
set_option maxRecDepth 100000
noncomputable def rtBody2:Code:=((Tryz.f6.body.bind jb).bind jb).getD .skip
abbrev nD {n:Nat} (wr:World) (st:Tm (n+1)) (ms:Tm (n+1)) (nx:Tm (n+1)) (va3:Option Addr) (L3:Nat) (vc3:Nat):World:=(((((wr.alloc (.cells #[.int .i64 2,.int .i64 0,.string ⟨#[111,110]⟩,.slice none 0 0] 25)).alloc (.cells #[.int .i64 4,.int .i64 0,.string ⟨#[]⟩,.slice va3 L3 vc3] 25)).alloc (.cells #[.int .i64 2,.int .i64 0,.string ⟨#[111,110]⟩,.slice none 0 0,.int .i64 st.1.1,.int .i64 st.1.2.1,.string st.1.2.2,.slice st.2.1.1 st.2.2.length st.2.1.2,.int .i64 ms.1.1,.int .i64 ms.1.2.1,.string ms.1.2.2,.slice ms.2.1.1 ms.2.2.length ms.2.1.2,.int .i64 4,.int .i64 0,.string ⟨#[]⟩,.slice va3 L3 vc3,.int .i64 nx.1.1,.int .i64 nx.1.2.1,.string nx.1.2.2,.slice nx.2.1.1 nx.2.2.length nx.2.1.2] 25)).alloc (.cells #[.int .i64 4,.int .i64 0,.string ⟨#[]⟩,.slice (some ⟨wr.heap.size+1+1,0,none⟩) 5 5] 25)).alloc (.cells #[.int .i64 4,.int .i64 0,.string ⟨#[]⟩,.slice (some ⟨wr.heap.size+1+1,0,none⟩) 5 5] 25))
theorem rT (n:Nat) (cls:List (Cl (n+1))) (ys:ByteArray) (ca:Option Addr) (cc m2 B pb po k len pc:Nat) (wa Wb:World) (ok1:Bool) (hBa:B<=wa.heap.size) (HM2:Hid (m2=cls.length)) (hl2:m2<=1048576)
    (HFy:Hid (cls.length<=1048576/\∀c∈cls,c.2.2.length<=1048576)) (HI:Hid (Bj (n+1) B wa (ys,(ca,cc),cls))) (hpw:pb<wa.heap.size) (hk1:(0:Int)<=(k:Int)) (hk2:(k:Int)<(len:Int)) (_hlen:len<=1048576)
    (HK:Hid (∀w',Below wa.heap.size wa w'->w'.cell? ⟨pb,po+k*2,none⟩=some (.string ys)/\w'.cell? ⟨pb,po+k*2+1,none⟩=some (.slice ca m2 cc))) (HG2:Hid (RowI (n+4) B (eT n) [ay mR (n+3),ay ys (n+3)] cls wa wa.heap.size 0 ok1 (.slice (some ⟨wa.heap.size+1+1,0,none⟩) 2 2) Wb))
    {K2:Act->World->Prop} {Q2:Exit->Act->World->Prop} {c1 c2 c3 c6 c10 c11 c12 c13 c14 c15 c16 c17 c18 c19 c20 c21 c22 c23 c24 c25 c26 c27 c28 c29 c30 c31 c32 c33 c34 c35 c36 c37 c38 c39 c40 c41 c42 c43 c44 c45 c46 c47 c48 c49 c50 c51 c52 c53 c54 c55 c56 c57 c58 c59 c60 c61 c62 c63 c64 c65 c66 c67 c68 c69 c70 c71 c72 c73 c74 c75 c76 c77 c78 c79 c80 c81 c82 c83 c84 c85 c86 c87 c88 c89 c90 c91 c92 c93 c94 c95 c96 c97 c98 c99 c100 c101 c102 c103 c104 c105 c106 c107 c108 c109 c110 c111 c112 c113 c114 c115 c116 c117 c118 c119 c120 c121 c122 c123 c124 c125 c126 c127 c128 c129 c130 c131 c132 c133 c134 c135 c136 c137 c138 c139 c140 c141 c142 c143 c144 c145 c146 c147 c148 c149 c150 c151 c152 c153 c154 c155 c156 c157 c158 c159 c160 c161 c162 c163 c164 c165 c166 c167 c168 c169 c170 c171 c172 c173 c174 c175 c176 c177 c178 c179 c180 c181 c182 c183 c184 c185 c186 c187 c188 c189 c190 c191 c192 c193 c194 c195 c196 c197 c198 c199 c200 c201 c202 c203 c204 c205 c206 c207 c208 c209 c210 c211 c212 c213 c214 c215 c216 c217 c218 c219 c220 c221 c222 c223 c224 c225 c226 c227 c228 c229 c230 c231 c232 c233 c234 c235:Value}
    (HK2:Hid (∀(u10 u11 u12 u13 u52 u53 u54 u55 u56 u57 u58 u59 u60 u61 u62 u63 u64 u65 u66 u67 u68 u69 u70 u71 u72 u73 u74 u75 u76 u77 u78 u79 u80 u81 u82 u83 u84 u85 u86 u87 u88 u89 u90 u91 u92 u93 u94 u95 u96 u97 u98 u99 u100 u101 u102 u103 u104 u105 u106 u107 u108 u109 u110 u111 u112 u113 u114 u115 u116 u117 u118 u119 u120 u121 u122 u123 u124 u125 u126 u127 u128 u129 u130 u131 u132 u133 u134 u135 u136 u137 u138 u139 u140 u141 u142 u143 u144 u145 u146 u147 u148 u149 u150 u151 u152 u153 u154 u155 u156 u157 u158 u159 u160 u161 u162 u163 u164 u165 u166 u167 u168 u169 u170 u171 u172 u173 u174 u175 u176 u177 u178 u179 u180 u181 u182 u183 u184 u185 u186 u187 u188 u189 u190 u191 u192 u193 u194 u195 u196 u197 u198 u199 u200 u201 u202 u203 u204 u205 u206 u207 u208 u209 u210 u211 u212 u213 u214 u215 u216 u217 u218 v:Value) (ok2:Bool) (wr:World),Hid (RowI (n+4) B (eT n) [ay mR (n+3),ay ys (n+3)] cls wa wa.heap.size m2 ok2 v wr/\ok2=(ok1 && (cls.take m2).all (wQ (n+1))))->K2 ⟨List.toArray (Value.slice (some ⟨pb,po,none⟩) len pc::c1::c2::c3::Value.bool ok2::Value.func (.func 28) #[] #[]::c6::Value.int .i64 k::v::Value.int .i64 m2::u10::u11::u12::u13::c14::c15::c16::c17::c18::c19::c20::c21::c22::c23::c24::c25::c26::c27::c28::c29::c30::c31::c32::c33::c34::c35::c36::c37::c38::c39::c40::c41::c42::c43::c44::c45::c46::c47::c48::c49::c50::c51::u52::u53::u54::u55::u56::u57::u58::u59::u60::u61::u62::u63::u64::u65::u66::u67::u68::u69::u70::u71::u72::u73::u74::u75::u76::u77::u78::u79::u80::u81::u82::u83::u84::u85::u86::u87::u88::u89::u90::u91::u92::u93::u94::u95::u96::u97::u98::u99::u100::u101::u102::u103::u104::u105::u106::u107::u108::u109::u110::u111::u112::u113::u114::u115::u116::u117::u118::u119::u120::u121::u122::u123::u124::u125::u126::u127::u128::u129::u130::u131::u132::u133::u134::u135::u136::u137::u138::u139::u140::u141::u142::u143::u144::u145::u146::u147::u148::u149::u150::u151::u152::u153::u154::u155::u156::u157::u158::u159::u160::u161::u162::u163::u164::u165::u166::u167::u168::u169::u170::u171::u172::u173::u174::u175::u176::u177::u178::u179::u180::u181::u182::u183::u184::u185::u186::u187::u188::u189::u190::u191::u192::u193::u194::u195::u196::u197::u198::u199::u200::u201::u202::u203::u204::u205::u206::u207::u208::u209::u210::u211::u212::u213::u214::u215::u216::u217::u218::c219::c220::c221::c222::c223::c224::c225::c226::c227::c228::c229::c230::c231::c232::c233::c234::c235::[]),[]⟩ wr)):
    Code.wp Tryz.prog (Code.loop rtBody2) (Exit.inBlock 2 (Exit.then K2 Q2)) ⟨List.toArray (Value.slice (some ⟨pb,po,none⟩) len pc::c1::c2::c3::Value.bool ok1::Value.func (.func 28) #[] #[]::c6::Value.int .i64 k::Value.slice (some ⟨wa.heap.size+1+1,0,none⟩) 2 2::Value.int .i64 0::c10::c11::c12::c13::c14::c15::c16::c17::c18::c19::c20::c21::c22::c23::c24::c25::c26::c27::c28::c29::c30::c31::c32::c33::c34::c35::c36::c37::c38::c39::c40::c41::c42::c43::c44::c45::c46::c47::c48::c49::c50::c51::c52::c53::c54::c55::c56::c57::c58::c59::c60::c61::c62::c63::c64::c65::c66::c67::c68::c69::c70::c71::c72::c73::c74::c75::c76::c77::c78::c79::c80::c81::c82::c83::c84::c85::c86::c87::c88::c89::c90::c91::c92::c93::c94::c95::c96::c97::c98::c99::c100::c101::c102::c103::c104::c105::c106::c107::c108::c109::c110::c111::c112::c113::c114::c115::c116::c117::c118::c119::c120::c121::c122::c123::c124::c125::c126::c127::c128::c129::c130::c131::c132::c133::c134::c135::c136::c137::c138::c139::c140::c141::c142::c143::c144::c145::c146::c147::c148::c149::c150::c151::c152::c153::c154::c155::c156::c157::c158::c159::c160::c161::c162::c163::c164::c165::c166::c167::c168::c169::c170::c171::c172::c173::c174::c175::c176::c177::c178::c179::c180::c181::c182::c183::c184::c185::c186::c187::c188::c189::c190::c191::c192::c193::c194::c195::c196::c197::c198::c199::c200::c201::c202::c203::c204::c205::c206::c207::c208::c209::c210::c211::c212::c213::c214::c215::c216::c217::c218::c219::c220::c221::c222::c223::c224::c225::c226::c227::c228::c229::c230::c231::c232::c233::c234::c235::[]),[]⟩ Wb:=by
 obtain⟨it,hit,htz0,htz1,htz2⟩:=info_parts bP
 have HT:=hide (⟨hit,htz0,htz1,htz2⟩:_/\_/\_/\_)
 clear hit htz0 htz1 htz2
 conv=>arg 2;arg 1;whnf
 have HB2b:Hid (Below wa.heap.size wa Wb):=(by obtain⟨xs0,_,h0,_⟩:=HG2.out;exact h0.1)
 obtain⟨y0,y1⟩:=HK.out Wb HB2b.out
 have hpw2:pb<Wb.heap.size:=Nat.lt_of_lt_of_le hpw HB2b.out.size
 go_loopw [4,8,9] (fun vo v i wr=>∃(m:Nat) (u:Value) (ok2:Bool),m<=m2/\i=.int .i64 m/\u=v/\vo=.bool ok2/\Hid (RowI (n+4) B (eT n) [ay mR (n+3),ay ys (n+3)] cls wa wa.heap.size m ok2 u wr/\ok2=(ok1 && (cls.take m).all (wQ (n+1))))) (fun _ _ i _=>m2-(intOf i).toNat)
 case atStart=>exact⟨0,_,_,by omega,rfl,rfl,rfl,HG2.out,by simp⟩
 case round=>
  clear HG2 HB2b y0 y1 hpw2
  obtain⟨m,v2,ok2,hm,rfl,rfl,rfl,HR⟩:=hrel
  obtain⟨va2,L2,vc2,rfl,hL2,xs2,HL2,HG2,HS2⟩:=HR.out.1.slice
  replace HL2:=hide HL2
  replace HG2:=hide HG2
  replace HS2:=hide HS2
  have HOK2:=hide HR.out.2
  have hL2':L2<=m+2:=hL2
  clear hL2
  have HB2:Hid (Below wa.heap.size wa wr):=HG2.out.1
  have hb2:wa.heap.size<=wr.heap.size:=HB2.out.size
  obtain⟨y0,y1⟩:=HK.out wr HB2.out
  have hpw2:pb<wr.heap.size:=by omega
  by_cases hlt2:m<m2
  rotate_left
  ·obtain rfl:m=m2:=by omega
   go_wp2_with fail
   exact HK2.out _ _ _ _ _ _ _ _ _ _ _ _ _ _ _ _ _ _ _ _ _ _ _ _ _ _ _ _ _ _ _ _ _ _ _ _ _ _ _ _ _ _ _ _ _ _ _ _ _ _ _ _ _ _ _ _ _ _ _ _ _ _ _ _ _ _ _ _ _ _ _ _ _ _ _ _ _ _ _ _ _ _ _ _ _ _ _ _ _ _ _ _ _ _ _ _ _ _ _ _ _ _ _ _ _ _ _ _ _ _ _ _ _ _ _ _ _ _ _ _ _ _ _ _ _ _ _ _ _ _ _ _ _ _ _ _ _ _ _ _ _ _ _ _ _ _ _ _ _ _ _ _ _ _ _ _ _ _ _ _ _ _ _ _ _ _ _ _ _ _ _ _ _ _ HR
  ·obtain⟨⟨⟨st,ms,nx⟩,⟨aa,ac⟩,acts⟩,hz⟩:∃z,cls[m]? =some z:=⟨cls[m]'(by rw[<-HM2.out];exact hlt2),List.getElem?_eq_getElem _⟩
   have HZ:=hide hz
   obtain⟨cb,co,hca,hcb,⟨⟨z0,z1,z2,z3⟩,⟨z4,z5,z6,z7⟩,z8,z9,z10,z11,z12⟩,hi2⟩:=(fH (dK (n+1)) (HB2.out.mono (by omega:B<=wa.heap.size)) HI.out.2.2).cl m _ hz
   simp only at z0 z1 z2 z3 z4 z5 z6 z7 z8 z9 z10 z11 z12 hca
   subst hca
   have HI2:=hide hi2
   have HFz:=hide (HFy.out.2 _ (List.mem_of_getElem? hz))
   obtain⟨m3,hm3⟩:∃m3,m3=acts.length:=⟨_,rfl⟩
   have hl3:m3<=1048576:=by rw[hm3];exact HFz.out
   have HM3:=hide hm3
   rw[<-hm3]at z8
   have hcw:cb<wr.heap.size:=by omega
   have hm1:(0:Int)<=(m:Int):=by omega
   have hm2i:(m:Int)<(m2:Int):=by omega
   clear hi2 hz hm3
   go_upto_region 13 with fail
   go_cut [4]from 52 to 218 (fun v4 wx=>v4=.bool (ok2 && decide ((m3:Int)<=8))/\wx=wr.alloc (.cells #[.int .i64 st.1.1,.int .i64 st.1.2.1,.string st.1.2.2,.slice st.2.1.1 st.2.2.length st.2.1.2,.int .i64 ms.1.1,.int .i64 ms.1.2.1,.string ms.1.2.2,.slice ms.2.1.1 ms.2.2.length ms.2.1.2,.slice aa m3 ac,.int .i64 nx.1.1,.int .i64 nx.1.2.1,.string nx.1.2.2,.slice nx.2.1.1 nx.2.2.length nx.2.1.2] 90))
   case first=>
    cases ok2
    ·go_wp2_with fail
     go_meet
     case rel=>exact⟨rfl,rfl⟩
    ·go_wp2_with fail
     go_meet
     case rel=>exact⟨rfl,rfl⟩
   case rest=>
    obtain⟨rfl,hwc⟩:=hcut
    obtain⟨wb,hwb⟩:∃wb,wb=wr:=⟨_,rfl⟩
    subst hwb
    have HBXC:Hid (wc.heap[wb.heap.size]? =some (.cells #[.int .i64 st.1.1,.int .i64 st.1.2.1,.string st.1.2.2,.slice st.2.1.1 st.2.2.length st.2.1.2,.int .i64 ms.1.1,.int .i64 ms.1.2.1,.string ms.1.2.2,.slice ms.2.1.1 ms.2.2.length ms.2.1.2,.slice aa m3 ac,.int .i64 nx.1.1,.int .i64 nx.1.2.1,.string nx.1.2.2,.slice nx.2.1.1 nx.2.2.length nx.2.1.2] 90)):=(by rw[hwc];exact heap_alloc_new wb _)
    have HBC:Hid (Below wb.heap.size wb wc/\wc.heap.size=wb.heap.size+1):=(by rw[hwc];exact⟨aM,by simp⟩)
    obtain⟨wz,hwz⟩:∃wz,wz=wc:=⟨_,rfl⟩
    subst hwz
    clear hwc z0 z1 z2 z3 z4 z5 z6 z7 z8 z9 z10 z11 z12 y0 y1
    obtain⟨okc,hokc⟩:∃okc,okc=(ok2 && decide ((m3:Int)<=8)):=⟨_,rfl⟩
    rw[<-hokc]
    have HOKC:=hide hokc
    clear hokc
    have c8:wz.cell? ⟨wb.heap.size,8,none⟩=some (.slice aa m3 ac):=af HBXC.out 8
    go_wp2_with fail
    refine yE n acts st ms nx aa ac m3 B wb wz okc (by omega) HM3 hl3 HI2 HBC HBXC (fun x13 x77 x78 x79 x80 x81 x82 x83 x84 x85 x86 x87 x88 x89 x90 x91 x92 x93 x94 x95 x96 x97 x98 x99 x100 x101 x102 x103 x104 x105 x106 x107 x108 x109 x110 x111 x112 x113 x114 x115 x116 x117 x118 x119 x120 x121 x122 x123 x124 x125 x126 x127 x128 x129 x130 x131 x132 x133 x134 x135 x136 x137 x138 x139 x140 x141 x142 x143 x144 x145 x146 x147 x148 x149 x150 x151 x152 x153 x154 x155 x156 x157 x158 x159 x160 x161 x162 x163 x164 x165 x166 x167 x168 x169 x170 x171 x172 x173 x174 x175 x176 x177 x178 x179 x180 x181 x182 x183 x184 x185 x186 x187 x188 x189 x190 x191 x192 x193 x194 x195 x196 x197 x198 x199 x200 x201 x202 x203 x204 v3 ok3 wr HR=> ?_)
    clear c8
    obtain⟨va3,L3,vc3,rfl,hL3,xs3,HL3,HG3,HS3⟩:=HR.out.1.slice
    replace HL3:=hide HL3
    replace HG3:=hide HG3
    replace HS3:=hide HS3
    have HOK3:=hide HR.out.2
    clear HR
    have hL3':L3<=m3:=hL3
    clear hL3
    have HB3:Hid (Below wz.heap.size wz wr):=HG3.out.1
    have hb3:wz.heap.size<=wr.heap.size:=HB3.out.size
    have hzb:wb.heap.size<wz.heap.size:=by have:=HBC.out.2;omega
    have HBX3:=hide ((HB3.out.block _ hzb).trans HBXC.out)
    have c8:wr.cell? ⟨wb.heap.size,8,none⟩=some (.slice aa m3 ac):=af HBX3.out 8
    have hbr:wb.heap.size<wr.heap.size:=by omega
    have HQ:Hid (∀w',Below wr.heap.size wr w'->(w'.cell? ⟨wb.heap.size,0,none⟩=some (.int .i64 st.1.1)/\w'.cell? ⟨wb.heap.size,1,none⟩=some (.int .i64 st.1.2.1)/\w'.cell? ⟨wb.heap.size,2,none⟩=some (.string st.1.2.2)/\w'.cell? ⟨wb.heap.size,3,none⟩=some (.slice st.2.1.1 st.2.2.length st.2.1.2))/\(w'.cell? ⟨wb.heap.size,4,none⟩=some (.int .i64 ms.1.1)/\w'.cell? ⟨wb.heap.size,5,none⟩=some (.int .i64 ms.1.2.1)/\w'.cell? ⟨wb.heap.size,6,none⟩=some (.string ms.1.2.2)/\w'.cell? ⟨wb.heap.size,7,none⟩=some (.slice ms.2.1.1 ms.2.2.length ms.2.1.2))/\(w'.cell? ⟨wb.heap.size,9,none⟩=some (.int .i64 nx.1.1)/\w'.cell? ⟨wb.heap.size,10,none⟩=some (.int .i64 nx.1.2.1)/\w'.cell? ⟨wb.heap.size,11,none⟩=some (.string nx.1.2.2)/\w'.cell? ⟨wb.heap.size,12,none⟩=some (.slice nx.2.1.1 nx.2.2.length nx.2.1.2))):=fun w' h=>by
     have hc:=fun o=>ag h wb.heap.size o hbr
     exact⟨⟨(hc _).trans (af HBX3.out 0),(hc _).trans (af HBX3.out 1),(hc _).trans (af HBX3.out 2),(hc _).trans (af HBX3.out 3)⟩,⟨(hc _).trans (af HBX3.out 4),(hc _).trans (af HBX3.out 5),(hc _).trans (af HBX3.out 6),(hc _).trans (af HBX3.out 7)⟩,(hc _).trans (af HBX3.out 9),(hc _).trans (af HBX3.out 10),(hc _).trans (af HBX3.out 11),(hc _).trans (af HBX3.out 12)⟩
    obtain⟨⟨q0,q1,q2,q3⟩,⟨q4,q5,q6,q7⟩,q9,q10,q11,q12⟩:=HQ.out wr (Below.refl _ _)
    have HBB:Hid (Below wb.heap.size wb wr):=HBC.out.1.trans (HB3.out.mono (by omega))
    have HV:Hid (Below wr.heap.size wr ((wr.alloc (.cells #[.int .i64 2,.int .i64 0,.string ⟨#[111,110]⟩,.slice none 0 0] 25)).alloc (.cells #[.int .i64 4,.int .i64 0,.string ⟨#[]⟩,.slice va3 L3 vc3] 25))/\Below (((wr.alloc (.cells #[.int .i64 2,.int .i64 0,.string ⟨#[111,110]⟩,.slice none 0 0] 25)).alloc (.cells #[.int .i64 4,.int .i64 0,.string ⟨#[]⟩,.slice va3 L3 vc3] 25)).alloc (.cells #[.int .i64 2,.int .i64 0,.string ⟨#[111,110]⟩,.slice none 0 0,.int .i64 st.1.1,.int .i64 st.1.2.1,.string st.1.2.2,.slice st.2.1.1 st.2.2.length st.2.1.2,.int .i64 ms.1.1,.int .i64 ms.1.2.1,.string ms.1.2.2,.slice ms.2.1.1 ms.2.2.length ms.2.1.2,.int .i64 4,.int .i64 0,.string ⟨#[]⟩,.slice va3 L3 vc3,.int .i64 nx.1.1,.int .i64 nx.1.2.1,.string nx.1.2.2,.slice nx.2.1.1 nx.2.2.length nx.2.1.2] 25)).heap.size (((wr.alloc (.cells #[.int .i64 2,.int .i64 0,.string ⟨#[111,110]⟩,.slice none 0 0] 25)).alloc (.cells #[.int .i64 4,.int .i64 0,.string ⟨#[]⟩,.slice va3 L3 vc3] 25)).alloc (.cells #[.int .i64 2,.int .i64 0,.string ⟨#[111,110]⟩,.slice none 0 0,.int .i64 st.1.1,.int .i64 st.1.2.1,.string st.1.2.2,.slice st.2.1.1 st.2.2.length st.2.1.2,.int .i64 ms.1.1,.int .i64 ms.1.2.1,.string ms.1.2.2,.slice ms.2.1.1 ms.2.2.length ms.2.1.2,.int .i64 4,.int .i64 0,.string ⟨#[]⟩,.slice va3 L3 vc3,.int .i64 nx.1.1,.int .i64 nx.1.2.1,.string nx.1.2.2,.slice nx.2.1.1 nx.2.2.length nx.2.1.2] 25)) (nD wr st ms nx va3 L3 vc3).drew/\Below wr.heap.size wr (nD wr st ms nx va3 L3 vc3).drew):=⟨by go_grown,by go_grown,by go_grown⟩
    have HP5:=hide (Dj (base:=wz.heap.size) (w1:=((wr.alloc (.cells #[.int .i64 2,.int .i64 0,.string ⟨#[111,110]⟩,.slice none 0 0] 25)).alloc (.cells #[.int .i64 4,.int .i64 0,.string ⟨#[]⟩,.slice va3 L3 vc3] 25))) (by omega:B<=wb.heap.size) HI2.out.1.1 HI2.out.1.2.1 HI2.out.1.2.2 HBB.out HG3.out.tup HV.out.1)
    have HX:Hid (In (nD wr st ms nx va3 L3 vc3).drew.heap.size (nD wr st ms nx va3 L3 vc3).drew (n+4) (((4,0,.empty),(some ⟨wr.heap.size+1+1,0,none⟩,5),[ay zH (n+2),lift (n+3) (n+1) st,lift (n+3) (n+1) ms,((4,0,.empty),(va3,vc3),xs3),lift (n+3) (n+1) nx]):Tm (n+4))/\Off (fun b=>b<B∨wz.heap.size<=b) (n+4) (((4,0,.empty),(some ⟨wr.heap.size+1+1,0,none⟩,5),[ay zH (n+2),lift (n+3) (n+1) st,lift (n+3) (n+1) ms,((4,0,.empty),(va3,vc3),xs3),lift (n+3) (n+1) nx]):Tm (n+4))):=EG (w1:=((wr.alloc (.cells #[.int .i64 2,.int .i64 0,.string ⟨#[111,110]⟩,.slice none 0 0] 25)).alloc (.cells #[.int .i64 4,.int .i64 0,.string ⟨#[]⟩,.slice va3 L3 vc3] 25))) (cs:= #[.int .i64 2,.int .i64 0,.string ⟨#[111,110]⟩,.slice none 0 0,.int .i64 st.1.1,.int .i64 st.1.2.1,.string st.1.2.2,.slice st.2.1.1 st.2.2.length st.2.1.2,.int .i64 ms.1.1,.int .i64 ms.1.2.1,.string ms.1.2.2,.slice ms.2.1.1 ms.2.2.length ms.2.1.2,.int .i64 4,.int .i64 0,.string ⟨#[]⟩,.slice va3 L3 vc3,.int .i64 nx.1.1,.int .i64 nx.1.2.1,.string nx.1.2.2,.slice nx.2.1.1 nx.2.2.length nx.2.1.2]) [ay zH (n+2),lift (n+3) (n+1) st,lift (n+3) (n+1) ms,((4,0,.empty),(va3,vc3),xs3),lift (n+3) (n+1) nx] (by have:=HV.out.1.size;omega) (by simp) rfl HV.out.2.1 (nS n st ms nx va3 vc3 L3 xs3 HL3.out) (by show 5<=8;omega) HP5.out
    have HXS:Hid (ok3=true->same (n+4) (((4,0,.empty),(some ⟨wr.heap.size+1+1,0,none⟩,5),[ay zH (n+2),lift (n+3) (n+1) st,lift (n+3) (n+1) ms,((4,0,.empty),(va3,vc3),xs3),lift (n+3) (n+1) nx]):Tm (n+4)) (n+4) (eT n ((st,ms,nx),(aa,ac),acts))=true):=fun h=>bX rfl (yQ HI2.out.1.1 HI2.out.1.2.1 HI2.out.1.2.2 (bX rfl (by have h1:=HS3.out h;rw[List.take_of_length_le (by rw[<-HM3.out];omega)]at h1;exact h1)))
    have HNB:Hid ((nD wr st ms nx va3 L3 vc3).drew.heap[wr.heap.size+1+1+1+1]? =some (.cells #[.int .i64 4,.int .i64 0,.string ⟨#[]⟩,.slice (some ⟨wr.heap.size+1+1,0,none⟩) 5 5] 25)):=iC ((((wr.alloc (.cells #[.int .i64 2,.int .i64 0,.string ⟨#[111,110]⟩,.slice none 0 0] 25)).alloc (.cells #[.int .i64 4,.int .i64 0,.string ⟨#[]⟩,.slice va3 L3 vc3] 25)).alloc (.cells #[.int .i64 2,.int .i64 0,.string ⟨#[111,110]⟩,.slice none 0 0,.int .i64 st.1.1,.int .i64 st.1.2.1,.string st.1.2.2,.slice st.2.1.1 st.2.2.length st.2.1.2,.int .i64 ms.1.1,.int .i64 ms.1.2.1,.string ms.1.2.2,.slice ms.2.1.1 ms.2.2.length ms.2.1.2,.int .i64 4,.int .i64 0,.string ⟨#[]⟩,.slice va3 L3 vc3,.int .i64 nx.1.1,.int .i64 nx.1.2.1,.string nx.1.2.2,.slice nx.2.1.1 nx.2.2.length nx.2.1.2] 25)).alloc (.cells #[.int .i64 4,.int .i64 0,.string ⟨#[]⟩,.slice (some ⟨wr.heap.size+1+1,0,none⟩) 5 5] 25)) _ (by simp)
    have HWZ:Hid (((nD wr st ms nx va3 L3 vc3).drew).heap.size=wr.heap.size+1+1+1+1+1):=(show _=_ by simp[World.drew])
    have hb4:wb.heap.size<=wr.heap.size:=by omega
    have HBV:Hid (Below wb.heap.size wb (nD wr st ms nx va3 L3 vc3).drew):=HBB.out.trans (HV.out.2.2.mono hb4)
    have HAP:=fun(g c:Nat) (w4:World) hown hgrow hat=>hide (HG2.out.appAt (W:=(nD wr st ms nx va3 L3 vc3).drew) (w4:=w4) (g:=g) (c:=c) HL2.out (by omega) hb2 HBV.out (((4,0,.empty),(some ⟨wr.heap.size+1+1,0,none⟩,5),[ay zH (n+2),lift (n+3) (n+1) st,lift (n+3) (n+1) ms,((4,0,.empty),(va3,vc3),xs3),lift (n+3) (n+1) nx]):Tm (n+4)) HX.out.1 (HX.out.2.mono fun b hb=>by omega) hown hgrow hat)
    have HBX:=fun(w4:World) (hgrow:World.grownBy (nD wr st ms nx va3 L3 vc3).drew w4 (Value.slice va2 L2 vc2).ownBlock)=>hide ((kR hgrow (q:=wb.heap.size) (by have:=HWZ.out;omega) (HG2.out.apart (Or.inl (Nat.le_refl _)))).trans ((HV.out.2.2.block wb.heap.size hbr).trans HBX3.out))
    have HOW:=hide (HG2.out.ownAt HL2.out HBV.out)
    have HOKn:Hid (ok3=(ok1 && (cls.take (m+1)).all (wQ (n+1)))):=(by
     show ok3=_
     rw[rA _ _ _ _ HZ.out,<-Bool.and_assoc,<-HOK2.out,HOK3.out,HOKC.out,List.take_of_length_le (by rw[<-HM3.out];omega),Bool.and_assoc]
     show _=(ok2 && (decide ((acts.length:Int)<=8) && acts.all (iN (n+1))))
     rw[<-HM3.out])
    clear HV HG3 HG2 HBX3
    go_wp2_with fail
    go_region_held3 (fun w'=>(w'.cell? ⟨wb.heap.size,0,none⟩=some (.int .i64 st.1.1)/\w'.cell? ⟨wb.heap.size,1,none⟩=some (.int .i64 st.1.2.1)/\w'.cell? ⟨wb.heap.size,2,none⟩=some (.string st.1.2.2)/\w'.cell? ⟨wb.heap.size,3,none⟩=some (.slice st.2.1.1 st.2.2.length st.2.1.2))/\(w'.cell? ⟨wb.heap.size,4,none⟩=some (.int .i64 ms.1.1)/\w'.cell? ⟨wb.heap.size,5,none⟩=some (.int .i64 ms.1.2.1)/\w'.cell? ⟨wb.heap.size,6,none⟩=some (.string ms.1.2.2)/\w'.cell? ⟨wb.heap.size,7,none⟩=some (.slice ms.2.1.1 ms.2.2.length ms.2.1.2))/\(w'.cell? ⟨wb.heap.size,9,none⟩=some (.int .i64 nx.1.1)/\w'.cell? ⟨wb.heap.size,10,none⟩=some (.int .i64 nx.1.2.1)/\w'.cell? ⟨wb.heap.size,11,none⟩=some (.string nx.1.2.2)/\w'.cell? ⟨wb.heap.size,12,none⟩=some (.slice nx.2.1.1 nx.2.2.length nx.2.1.2))) (first|(go_keep;done)|exact HQ4.out|(refine HQ.out _ ?_;go_grown;done))
     ((first
      | (go_at_call 29;refine(gD _ _).mono ?_;rintro e w1 ⟨rfl,rfl⟩)
      | (go_at_call 30;refine(dV _ _ _ _).mono ?_;rintro e w1 ⟨rfl,rfl⟩)
      | (refine step_append_lies _ rfl _ _ 23 rfl wa.heap.size 25 it _ 4 56 Tryz.underlying23 HT.out.1 HT.out.2.1 HT.out.2.2.1 HT.out.2.2.2 rfl (by decide) (.slice va2 L2 vc2) L2 (xs2.flatMap (fw (n+4))) (by simp[Act.eval]) HOW.out ⟨wr.heap.size+1+1+1+1,0,none⟩ 1 1 (fw (n+4) (((4,0,.empty),(some ⟨wr.heap.size+1+1,0,none⟩,5),[ay zH (n+2),lift (n+3) (n+1) st,lift (n+3) (n+1) ms,((4,0,.empty),(va3,vc3),xs3),lift (n+3) (n+1) nx]):Tm (n+4))) (by simp[Act.eval]) rfl (World.news_of_block (cs:= #[.int .i64 4,.int .i64 0,.string ⟨#[]⟩,.slice (some ⟨wr.heap.size+1+1,0,none⟩) 5 5]) (t:=25) (fr:=(0,0)) HNB.out) (gZ _ _) (by decide) (by unfold maxLen;omega) (by omega) (by refine Nat.le_trans ?_ (Nat.le_of_eq HWZ.out.symm);omega) (wr.heap.size+1+1+1+1+1) HWZ.out ?_;intro g4 c4 w4 hown4 hgrow4 hat4 hlt4;have HS4:=HAP g4 c4 w4 hown4 hgrow4 (by rw[HWZ.out];exact hat4);have HBX4:=HBX w4 hgrow4;have HQ4:=hide (AO HBX4.out);clear hown4 hgrow4 hat4 hlt4 HAP HBX HOW HNB HWZ)))
    go_wp2_with fail
    refine⟨?rel, ?measure⟩
    case rel=>exact⟨m+1,_,ok3,by omega,by go_num,rfl,rfl,RowI.mk HZ.out (by rw[HL2.out];exact hL2') HS2.out HS4.out (fun h=>⟨Ih (HOKC.out▸HOK3.out) h,HXS.out h⟩),HOKn.out⟩
    case measure=>simp[intOf];omega
end Go.Proofs.YtbknffhilfoakaaGreat
