/- What is proved here: the innermost loop of the document's To, over any acts of a clause: it appends what tells each act, and says whether all are in form. Condition: the clause lies in memory. -/
import Derived.Test.YtbknffhilfoakaaGreatG40
namespace Go.Proofs.YtbknffhilfoakaaGreat
open Go.RowKit
set_option maxHeartbeats 40000000
set_option maxRecDepth 100000
abbrev pu {n:Nat} (wr:World) (t:Tm (n+1)) (x:Tm (n+1)) (s:ByteArray) (v:Int):World:=((((((wr.alloc (.cells #[.int .i64 2,.int .i64 t.1.1,.int .i64 t.1.2.1,.string t.1.2.2,.slice t.2.1.1 t.2.2.length t.2.1.2,.int .i64 x.1.1,.int .i64 x.1.2.1,.string x.1.2.2,.slice x.2.1.1 x.2.2.length x.2.1.2,.string s,.int .i64 v] 92)).alloc (.cells #[.int .i64 2,.int .i64 0,.string ⟨#[115,112,97,119,110]⟩,.slice none 0 0] 25)).alloc (.cells #[.int .i64 2,.int .i64 0,.string s,.slice none 0 0] 25)).alloc (.cells #[.int .i64 2,.int .i64 0,.string ⟨#[115,112,97,119,110]⟩,.slice none 0 0,.int .i64 2,.int .i64 0,.string s,.slice none 0 0,.int .i64 x.1.1,.int .i64 x.1.2.1,.string x.1.2.2,.slice x.2.1.1 x.2.2.length x.2.1.2,.int .i64 5,.int .i64 v,.string ⟨#[]⟩,.slice none 0 0] 25)).alloc (.cells #[.int .i64 4,.int .i64 0,.string ⟨#[]⟩,.slice (some ⟨wr.heap.size+1+1+1,0,none⟩) 4 4] 25)).alloc (.cells #[.int .i64 4,.int .i64 0,.string ⟨#[]⟩,.slice (some ⟨wr.heap.size+1+1+1,0,none⟩) 4 4] 25))
abbrev qj {n:Nat} (wr:World) (t:Tm (n+1)) (x:Tm (n+1)) (s:ByteArray) (v:Int):World:=(((((wr.alloc (.cells #[.int .i64 1,.int .i64 t.1.1,.int .i64 t.1.2.1,.string t.1.2.2,.slice t.2.1.1 t.2.2.length t.2.1.2,.int .i64 x.1.1,.int .i64 x.1.2.1,.string x.1.2.2,.slice x.2.1.1 x.2.2.length x.2.1.2,.string s,.int .i64 v] 92)).alloc (.cells #[.int .i64 2,.int .i64 0,.string ⟨#[115,101,110,100]⟩,.slice none 0 0] 25)).alloc (.cells #[.int .i64 2,.int .i64 0,.string ⟨#[115,101,110,100]⟩,.slice none 0 0,.int .i64 t.1.1,.int .i64 t.1.2.1,.string t.1.2.2,.slice t.2.1.1 t.2.2.length t.2.1.2,.int .i64 x.1.1,.int .i64 x.1.2.1,.string x.1.2.2,.slice x.2.1.1 x.2.2.length x.2.1.2] 25)).alloc (.cells #[.int .i64 4,.int .i64 0,.string ⟨#[]⟩,.slice (some ⟨wr.heap.size+1+1,0,none⟩) 3 3] 25)).alloc (.cells #[.int .i64 4,.int .i64 0,.string ⟨#[]⟩,.slice (some ⟨wr.heap.size+1+1,0,none⟩) 3 3] 25))
abbrev pF {n:Nat} (wr:World) (t:Tm (n+1)) (x:Tm (n+1)) (s:ByteArray) (v:Int):World:=(((((wr.alloc (.cells #[.int .i64 3,.int .i64 t.1.1,.int .i64 t.1.2.1,.string t.1.2.2,.slice t.2.1.1 t.2.2.length t.2.1.2,.int .i64 x.1.1,.int .i64 x.1.2.1,.string x.1.2.2,.slice x.2.1.1 x.2.2.length x.2.1.2,.string s,.int .i64 v] 92)).alloc (.cells #[.int .i64 2,.int .i64 0,.string ⟨#[108,105,110,107]⟩,.slice none 0 0] 25)).alloc (.cells #[.int .i64 2,.int .i64 0,.string ⟨#[108,105,110,107]⟩,.slice none 0 0,.int .i64 t.1.1,.int .i64 t.1.2.1,.string t.1.2.2,.slice t.2.1.1 t.2.2.length t.2.1.2] 25)).alloc (.cells #[.int .i64 4,.int .i64 0,.string ⟨#[]⟩,.slice (some ⟨wr.heap.size+1+1,0,none⟩) 2 2] 25)).alloc (.cells #[.int .i64 4,.int .i64 0,.string ⟨#[]⟩,.slice (some ⟨wr.heap.size+1+1,0,none⟩) 2 2] 25))
abbrev pE {n:Nat} (wr:World) (t:Tm (n+1)) (x:Tm (n+1)) (s:ByteArray) (v:Int):World:=(((((wr.alloc (.cells #[.int .i64 4,.int .i64 t.1.1,.int .i64 t.1.2.1,.string t.1.2.2,.slice t.2.1.1 t.2.2.length t.2.1.2,.int .i64 x.1.1,.int .i64 x.1.2.1,.string x.1.2.2,.slice x.2.1.1 x.2.2.length x.2.1.2,.string s,.int .i64 v] 92)).alloc (.cells #[.int .i64 2,.int .i64 0,.string ⟨#[115,116,111,112]⟩,.slice none 0 0] 25)).alloc (.cells #[.int .i64 2,.int .i64 0,.string ⟨#[115,116,111,112]⟩,.slice none 0 0] 25)).alloc (.cells #[.int .i64 4,.int .i64 0,.string ⟨#[]⟩,.slice (some ⟨wr.heap.size+1+1,0,none⟩) 1 1] 25)).alloc (.cells #[.int .i64 4,.int .i64 0,.string ⟨#[]⟩,.slice (some ⟨wr.heap.size+1+1,0,none⟩) 1 1] 25))
theorem yE (n:Nat) (acts:List (Ac (n+1))) (st ms nx:Tm (n+1)) (aa:Option Addr) (ac m3 B:Nat) (wb wz:World) (okc:Bool) (hBb:B<=wb.heap.size) (HM3:Hid (m3=acts.length)) (hl3:m3<=1048576)
    (HI2:Hid (jH (n+1) B wb ((st,ms,nx),(aa,ac),acts)))
    (HBC:Hid (Below wb.heap.size wb wz/\wz.heap.size=wb.heap.size+1)) (HBXC:Hid (wz.heap[wb.heap.size]? =some (.cells #[.int .i64 st.1.1,.int .i64 st.1.2.1,.string st.1.2.2,.slice st.2.1.1 st.2.2.length st.2.1.2,.int .i64 ms.1.1,.int .i64 ms.1.2.1,.string ms.1.2.2,.slice ms.2.1.1 ms.2.2.length ms.2.1.2,.slice aa m3 ac,.int .i64 nx.1.1,.int .i64 nx.1.2.1,.string nx.1.2.2,.slice nx.2.1.1 nx.2.2.length nx.2.1.2] 90)))
    {K3:Act->World->Prop} {Q3:Exit->Act->World->Prop} {c0 c1 c2 c3 c6 c7 c8 c9 c13 c14 c15 c16 c17 c18 c19 c20 c21 c22 c23 c24 c25 c26 c27 c28 c29 c30 c31 c32 c33 c34 c35 c36 c37 c38 c39 c40 c41 c42 c43 c44 c45 c46 c47 c48 c49 c50 c51 c52 c53 c54 c55 c56 c57 c58 c59 c60 c61 c62 c63 c64 c65 c66 c67 c68 c69 c70 c71 c72 c73 c74 c75 c76 c77 c78 c79 c80 c81 c82 c83 c84 c85 c86 c87 c88 c89 c90 c91 c92 c93 c94 c95 c96 c97 c98 c99 c100 c101 c102 c103 c104 c105 c106 c107 c108 c109 c110 c111 c112 c113 c114 c115 c116 c117 c118 c119 c120 c121 c122 c123 c124 c125 c126 c127 c128 c129 c130 c131 c132 c133 c134 c135 c136 c137 c138 c139 c140 c141 c142 c143 c144 c145 c146 c147 c148 c149 c150 c151 c152 c153 c154 c155 c156 c157 c158 c159 c160 c161 c162 c163 c164 c165 c166 c167 c168 c169 c170 c171 c172 c173 c174 c175 c176 c177 c178 c179 c180 c181 c182 c183 c184 c185 c186 c187 c188 c189 c190 c191 c192 c193 c194 c195 c196 c197 c198 c199 c200 c201 c202 c203 c204 c205 c206 c207 c208 c209 c210 c211 c212 c213 c214 c215 c216 c217 c218 c219 c220 c221 c222 c223 c224 c225 c226 c227 c228 c229 c230 c231 c232 c233 c234 c235:Value}
    (HK3:Hid (∀(u13 u77 u78 u79 u80 u81 u82 u83 u84 u85 u86 u87 u88 u89 u90 u91 u92 u93 u94 u95 u96 u97 u98 u99 u100 u101 u102 u103 u104 u105 u106 u107 u108 u109 u110 u111 u112 u113 u114 u115 u116 u117 u118 u119 u120 u121 u122 u123 u124 u125 u126 u127 u128 u129 u130 u131 u132 u133 u134 u135 u136 u137 u138 u139 u140 u141 u142 u143 u144 u145 u146 u147 u148 u149 u150 u151 u152 u153 u154 u155 u156 u157 u158 u159 u160 u161 u162 u163 u164 u165 u166 u167 u168 u169 u170 u171 u172 u173 u174 u175 u176 u177 u178 u179 u180 u181 u182 u183 u184 u185 u186 u187 u188 u189 u190 u191 u192 u193 u194 u195 u196 u197 u198 u199 u200 u201 u202 u203 u204 v:Value) (ok3:Bool) (wr:World),Hid (RowI (n+2) B (eQ n) [] acts wz wz.heap.size m3 ok3 v wr/\ok3=(okc && (acts.take m3).all (iN (n+1))))->K3 ⟨List.toArray (c0::c1::c2::c3::Value.bool ok3::Value.func (.func 28) #[] #[]::c6::c7::c8::c9::Value.pointer (some ⟨wb.heap.size,0,none⟩)::v::Value.int .i64 m3::u13::c14::c15::c16::c17::c18::c19::c20::c21::c22::c23::c24::c25::c26::c27::c28::c29::c30::c31::c32::c33::c34::c35::c36::c37::c38::c39::c40::c41::c42::c43::c44::c45::c46::c47::c48::c49::c50::c51::c52::c53::c54::c55::c56::c57::c58::c59::c60::c61::c62::c63::c64::c65::c66::c67::c68::c69::c70::c71::c72::c73::c74::c75::c76::u77::u78::u79::u80::u81::u82::u83::u84::u85::u86::u87::u88::u89::u90::u91::u92::u93::u94::u95::u96::u97::u98::u99::u100::u101::u102::u103::u104::u105::u106::u107::u108::u109::u110::u111::u112::u113::u114::u115::u116::u117::u118::u119::u120::u121::u122::u123::u124::u125::u126::u127::u128::u129::u130::u131::u132::u133::u134::u135::u136::u137::u138::u139::u140::u141::u142::u143::u144::u145::u146::u147::u148::u149::u150::u151::u152::u153::u154::u155::u156::u157::u158::u159::u160::u161::u162::u163::u164::u165::u166::u167::u168::u169::u170::u171::u172::u173::u174::u175::u176::u177::u178::u179::u180::u181::u182::u183::u184::u185::u186::u187::u188::u189::u190::u191::u192::u193::u194::u195::u196::u197::u198::u199::u200::u201::u202::u203::u204::c205::c206::c207::c208::c209::c210::c211::c212::c213::c214::c215::c216::c217::c218::c219::c220::c221::c222::c223::c224::c225::c226::c227::c228::c229::c230::c231::c232::c233::c234::c235::[]),[]⟩ wr)):
    Code.wp Tryz.prog (Code.loop rtBody3) (Exit.inBlock 4 (Exit.then K3 Q3)) ⟨List.toArray (c0::c1::c2::c3::Value.bool okc::Value.func (.func 28) #[] #[]::c6::c7::c8::c9::Value.pointer (some ⟨wb.heap.size,0,none⟩)::Value.slice none 0 0::Value.int .i64 0::c13::c14::c15::c16::c17::c18::c19::c20::c21::c22::c23::c24::c25::c26::c27::c28::c29::c30::c31::c32::c33::c34::c35::c36::c37::c38::c39::c40::c41::c42::c43::c44::c45::c46::c47::c48::c49::c50::c51::c52::c53::c54::c55::c56::c57::c58::c59::c60::c61::c62::c63::c64::c65::c66::c67::c68::c69::c70::c71::c72::c73::c74::c75::c76::c77::c78::c79::c80::c81::c82::c83::c84::c85::c86::c87::c88::c89::c90::c91::c92::c93::c94::c95::c96::c97::c98::c99::c100::c101::c102::c103::c104::c105::c106::c107::c108::c109::c110::c111::c112::c113::c114::c115::c116::c117::c118::c119::c120::c121::c122::c123::c124::c125::c126::c127::c128::c129::c130::c131::c132::c133::c134::c135::c136::c137::c138::c139::c140::c141::c142::c143::c144::c145::c146::c147::c148::c149::c150::c151::c152::c153::c154::c155::c156::c157::c158::c159::c160::c161::c162::c163::c164::c165::c166::c167::c168::c169::c170::c171::c172::c173::c174::c175::c176::c177::c178::c179::c180::c181::c182::c183::c184::c185::c186::c187::c188::c189::c190::c191::c192::c193::c194::c195::c196::c197::c198::c199::c200::c201::c202::c203::c204::c205::c206::c207::c208::c209::c210::c211::c212::c213::c214::c215::c216::c217::c218::c219::c220::c221::c222::c223::c224::c225::c226::c227::c228::c229::c230::c231::c232::c233::c234::c235::[]),[]⟩ wz:=by
 obtain⟨it,hit,htz0,htz1,htz2⟩:=info_parts bP
 have HT:=hide (⟨hit,htz0,htz1,htz2⟩:_/\_/\_/\_)
 clear hit htz0 htz1 htz2
 conv=>arg 2;arg 1;whnf
 have c8:wz.cell? ⟨wb.heap.size,8,none⟩=some (.slice aa m3 ac):=af HBXC.out 8
 go_loopw [4,11,12] (fun vo v i wr=>∃(q:Nat) (u:Value) (ok3:Bool),q<=m3/\i=.int .i64 q/\u=v/\vo=.bool ok3/\Hid (RowI (n+2) B (eQ n) [] acts wz wz.heap.size q ok3 u wr/\ok3=(okc && (acts.take q).all (iN (n+1))))) (fun _ _ i _=>m3-(intOf i).toNat)
 case atStart=>exact⟨0,_,_,by omega,rfl,rfl,rfl,⟨[],by simp,Grow.nil _,fun _=>rfl⟩,by simp⟩
 case round=>
  clear c8
  obtain⟨q,v3,ok3,hq,rfl,rfl,rfl,HR⟩:=hrel
  obtain⟨va3,L3,vc3,rfl,hL3,xs3,HL3,HG3,HS3⟩:=HR.out.1.slice
  replace HL3:=hide HL3
  replace HG3:=hide HG3
  replace HS3:=hide HS3
  have HOK3:=hide HR.out.2
  have hL3':L3<=q:=hL3
  clear hL3
  have HB3:Hid (Below wz.heap.size wz wr):=HG3.out.1
  have hb3:wz.heap.size<=wr.heap.size:=HB3.out.size
  have hzb:wb.heap.size<wz.heap.size:=by have:=HBC.out.2;omega
  have HBX3:=hide ((HB3.out.block _ hzb).trans HBXC.out)
  have c8:wr.cell? ⟨wb.heap.size,8,none⟩=some (.slice aa m3 ac):=af HBX3.out 8
  have hbr:wb.heap.size<wr.heap.size:=by omega
  by_cases hlt3:q<m3
  ·obtain⟨⟨K,⟨t,x⟩,s,v⟩,hz3⟩:∃z,acts[q]? =some z:=⟨acts[q]'(by rw[<-HM3.out];exact hlt3),List.getElem?_eq_getElem _⟩
   have HZ3:=hide hz3
   have HBB:Hid (Below wb.heap.size wb wr):=HBC.out.1.trans (HB3.out.mono (by omega))
   obtain⟨ab,ao,haa,hab,⟨u0,⟨u1,u2,u3,u4⟩,⟨u5,u6,u7,u8⟩,u9,u10⟩,hi3⟩:=(fH (je (n+1)) (HBB.out.mono (by omega:B<=wb.heap.size)) HI2.out.2.2).ac q _ hz3
   simp only at u0 u1 u2 u3 u4 u5 u6 u7 u8 u9 u10 haa
   subst haa
   have HI3:=hide hi3
   have hsz:s.size<=9223372036854775807:=by have:=hi3.2.2.2.1;unfold maxLen at this;simp only at this;omega
   have haw:ab<wr.heap.size:=by omega
   have hq1:(0:Int)<=(q:Int):=by omega
   have hq2:(q:Int)<(m3:Int):=by omega
   have HOKn:Hid (∀b,b=(ok3 && iN (n+1) (K,(t,x),(s,v)))->b=(okc && (acts.take (q+1)).all (iN (n+1)))):=fun b hb=>by
    rw[hb,HOK3.out,rA _ _ _ _ HZ3.out,Bool.and_assoc]
   clear hi3 hz3
   have HIw:Hid (∀w',Below wz.heap.size wz w'->In B w' (n+1) t/\In B w' (n+1) x):=fun w' h=>by
    obtain⟨_,_,_,_,_,hi0⟩:=HI2.out.2.2.ac q _ HZ3.out
    have h1:=(je (n+1)).below ((HBC.out.1.trans (h.mono (by omega))).mono (by omega:B<=wb.heap.size)) hi0
    exact⟨h1.2.1,h1.2.2.1⟩
   have HSV:Hid (s.size<=maxLen/\dZ v):=⟨HI3.out.2.2.2.1,HI3.out.2.2.2.2⟩
   by_cases k1:K=1
   ·subst k1
    have HXS:Hid (∀y∈[ay jM n,t,x],In B wr (n+1) y):=fun y hy=>by
     simp only[List.mem_cons,List.not_mem_nil,or_false]at hy
     rcases hy with rfl|rfl|rfl
     ·exact bO _ _ (dO _ (by decide)) _ _
     ·exact(HIw.out wr HB3.out).1
     ·exact(HIw.out wr HB3.out).2
    go_wp2_with fail
    have HWf:Hid (Below wr.heap.size wr (qj wr t x s v).drew/\Below (wr.alloc (.cells #[.int .i64 1,.int .i64 t.1.1,.int .i64 t.1.2.1,.string t.1.2.2,.slice t.2.1.1 t.2.2.length t.2.1.2,.int .i64 x.1.1,.int .i64 x.1.2.1,.string x.1.2.2,.slice x.2.1.1 x.2.2.length x.2.1.2,.string s,.int .i64 v] 92)).heap.size (wr.alloc (.cells #[.int .i64 1,.int .i64 t.1.1,.int .i64 t.1.2.1,.string t.1.2.2,.slice t.2.1.1 t.2.2.length t.2.1.2,.int .i64 x.1.1,.int .i64 x.1.2.1,.string x.1.2.2,.slice x.2.1.1 x.2.2.length x.2.1.2,.string s,.int .i64 v] 92)) (qj wr t x s v).drew):=⟨by go_grown,by go_grown⟩
    have HX:Hid (In (qj wr t x s v).drew.heap.size (qj wr t x s v).drew (n+2) (((4,0,.empty),(some ⟨wr.heap.size+1+1,0,none⟩,3),[ay jM n,t,x]):Tm (n+2))/\Off (fun b=>b<B∨wr.heap.size<=b) (n+2) (((4,0,.empty),(some ⟨wr.heap.size+1+1,0,none⟩,3),[ay jM n,t,x]):Tm (n+2))/\same (n+2) (((4,0,.empty),(some ⟨wr.heap.size+1+1,0,none⟩,3),[ay jM n,t,x]):Tm (n+2)) (n+2) (bV (n+1) [ay jM n,t,x])=true):=qI (w1:=((wr.alloc (.cells #[.int .i64 1,.int .i64 t.1.1,.int .i64 t.1.2.1,.string t.1.2.2,.slice t.2.1.1 t.2.2.length t.2.1.2,.int .i64 x.1.1,.int .i64 x.1.2.1,.string x.1.2.2,.slice x.2.1.1 x.2.2.length x.2.1.2,.string s,.int .i64 v] 92)).alloc (.cells #[.int .i64 2,.int .i64 0,.string ⟨#[115,101,110,100]⟩,.slice none 0 0] 25))) (cs:= #[.int .i64 2,.int .i64 0,.string ⟨#[115,101,110,100]⟩,.slice none 0 0,.int .i64 t.1.1,.int .i64 t.1.2.1,.string t.1.2.2,.slice t.2.1.1 t.2.2.length t.2.1.2,.int .i64 x.1.1,.int .i64 x.1.2.1,.string x.1.2.2,.slice x.2.1.1 x.2.2.length x.2.1.2]) [ay jM n,t,x] (by go_grown) (by simp) rfl (by go_grown) rfl (by simp) (by omega) HXS.out
    have HNB:Hid ((qj wr t x s v).drew.heap[wr.heap.size+1+1+1+1]? =some (.cells #[.int .i64 4,.int .i64 0,.string ⟨#[]⟩,.slice (some ⟨wr.heap.size+1+1,0,none⟩) 3 3] 25)):=iC ((((wr.alloc (.cells #[.int .i64 1,.int .i64 t.1.1,.int .i64 t.1.2.1,.string t.1.2.2,.slice t.2.1.1 t.2.2.length t.2.1.2,.int .i64 x.1.1,.int .i64 x.1.2.1,.string x.1.2.2,.slice x.2.1.1 x.2.2.length x.2.1.2,.string s,.int .i64 v] 92)).alloc (.cells #[.int .i64 2,.int .i64 0,.string ⟨#[115,101,110,100]⟩,.slice none 0 0] 25)).alloc (.cells #[.int .i64 2,.int .i64 0,.string ⟨#[115,101,110,100]⟩,.slice none 0 0,.int .i64 t.1.1,.int .i64 t.1.2.1,.string t.1.2.2,.slice t.2.1.1 t.2.2.length t.2.1.2,.int .i64 x.1.1,.int .i64 x.1.2.1,.string x.1.2.2,.slice x.2.1.1 x.2.2.length x.2.1.2] 25)).alloc (.cells #[.int .i64 4,.int .i64 0,.string ⟨#[]⟩,.slice (some ⟨wr.heap.size+1+1,0,none⟩) 3 3] 25)) _ (by simp)
    have HWZ:Hid (((qj wr t x s v).drew).heap.size=wr.heap.size+1+1+1+1+1):=(show _=_ by simp[World.drew])
    have HAP:=fun(g c:Nat) (w4:World) hown hgrow hat=>hide (HG3.out.appAt (W:=(qj wr t x s v).drew) (w4:=w4) (g:=g) (c:=c) HL3.out (by omega) hb3 HWf.out.1 (((4,0,.empty),(some ⟨wr.heap.size+1+1,0,none⟩,3),[ay jM n,t,x]):Tm (n+2)) HX.out.1 HX.out.2.1 hown hgrow hat)
    have HBX:=fun(w4:World) (hgrow:World.grownBy (qj wr t x s v).drew w4 (Value.slice va3 L3 vc3).ownBlock)=>hide ((kR hgrow (q:=wr.heap.size) (Nat.lt_of_lt_of_le (by simp) HWf.out.2.size) (HG3.out.apart (Or.inl (Nat.le_refl _)))).trans ((HWf.out.2.block wr.heap.size (by simp)).trans (heap_alloc_new wr _)))
    have HOW:=hide (HG3.out.ownAt HL3.out HWf.out.1)
    clear HWf HG3
    go_region_held3 (fun w'=>w'.cell? ⟨wr.heap.size,1,none⟩=some (.int .i64 t.1.1)/\w'.cell? ⟨wr.heap.size,2,none⟩=some (.int .i64 t.1.2.1)/\w'.cell? ⟨wr.heap.size,3,none⟩=some (.string t.1.2.2)/\w'.cell? ⟨wr.heap.size,4,none⟩=some (.slice t.2.1.1 t.2.2.length t.2.1.2)/\w'.cell? ⟨wr.heap.size,5,none⟩=some (.int .i64 x.1.1)/\w'.cell? ⟨wr.heap.size,6,none⟩=some (.int .i64 x.1.2.1)/\w'.cell? ⟨wr.heap.size,7,none⟩=some (.string x.1.2.2)/\w'.cell? ⟨wr.heap.size,8,none⟩=some (.slice x.2.1.1 x.2.2.length x.2.1.2)) (first|(go_keep;done)|(simp[go_sem];done))
     ((first
      | (go_at_call 29;refine(gD _ _).mono ?_;rintro e w1 ⟨rfl,rfl⟩)
      | (go_at_call 30;refine(dV _ _ _ _).mono ?_;rintro e w1 ⟨rfl,rfl⟩)
      | (refine step_append_lies _ rfl _ _ 23 rfl wz.heap.size 25 it _ 4 56 Tryz.underlying23 HT.out.1 HT.out.2.1 HT.out.2.2.1 HT.out.2.2.2 rfl (by decide) (.slice va3 L3 vc3) L3 (xs3.flatMap (fw (n+2))) (by simp[Act.eval]) HOW.out ⟨wr.heap.size+1+1+1+1,0,none⟩ 1 1 (fw (n+2) (((4,0,.empty),(some ⟨wr.heap.size+1+1,0,none⟩,3),[ay jM n,t,x]):Tm (n+2))) (by simp[Act.eval]) rfl (World.news_of_block (cs:= #[.int .i64 4,.int .i64 0,.string ⟨#[]⟩,.slice (some ⟨wr.heap.size+1+1,0,none⟩) 3 3]) (t:=25) (fr:=(0,0)) HNB.out) (gZ _ _) (by decide) (by unfold maxLen;omega) (by omega) (by refine Nat.le_trans ?_ (Nat.le_of_eq HWZ.out.symm);omega) (wr.heap.size+1+1+1+1+1) HWZ.out ?_;intro g4 c4 w4 hown4 hgrow4 hat4 hlt4;have HS4:=HAP g4 c4 w4 hown4 hgrow4 (by rw[HWZ.out];exact hat4);have HBX4:=HBX w4 hgrow4;obtain⟨b1,b2,b3,b4,b5,b6,b7,b8,b9,b10⟩:=lD HBX4.out;have hw4:wr.heap.size<w4.heap.size:=(Array.getElem?_eq_some_iff.1 HBX4.out).1;clear hown4 hgrow4 hat4 hlt4 HAP HBX HOW HNB HWZ)))
    cases ok3
    ·go_wp2_with fail
     go_roundw
     case rel=>exact⟨q+1,_,false,by omega,by go_num,rfl,rfl,RowI.mk (ok:=false) HZ3.out (by rw[HL3.out];exact hL3') (fun h=>by cases h) HS4.out (fun h=>by cases h),HOKn.out _ (by simp)⟩
     case measure=>simp[intOf];omega
    ·cases h3:s.toList.isEmpty
     ·go_wp2_with fail
      go_roundw
      case rel=>exact⟨q+1,_,false,by omega,by go_num,rfl,rfl,RowI.mk (ok:=false) HZ3.out (by rw[HL3.out];exact hL3') (fun h=>by cases h) HS4.out (fun h=>by cases h),HOKn.out _ (by simp[iN,yN,h3])⟩
      case measure=>simp[intOf];omega
     ·go_wp2_with fail
      go_roundw
      case rel=>exact⟨q+1,_,(v==0),by omega,by go_num,rfl,rfl,RowI.mk (ok:=true) HZ3.out (by rw[HL3.out];exact hL3') (fun _=>HS3.out (by simp)) HS4.out (fun _=>⟨rfl,HX.out.2.2⟩),HOKn.out _ (by simp[iN,yN,h3])⟩
      case measure=>simp[intOf];omega
   by_cases k2:K=2
   ·subst k2
    have HXS:Hid (∀y∈[ay gV n,ay s n,x,aQ 5 v n],In B wr (n+1) y):=fun y hy=>by
     simp only[List.mem_cons,List.not_mem_nil,or_false]at hy
     rcases hy with rfl|rfl|rfl|rfl
     ·exact bO _ _ (dO _ (by decide)) _ _
     ·exact bO _ _ HSV.out.1 _ _
     ·exact(HIw.out wr HB3.out).2
     ·exact yC _ _ _ (by simp[dZ]) HSV.out.2 _ _
    go_wp2_with fail
    have HWf:Hid (Below wr.heap.size wr (pu wr t x s v).drew/\Below (wr.alloc (.cells #[.int .i64 2,.int .i64 t.1.1,.int .i64 t.1.2.1,.string t.1.2.2,.slice t.2.1.1 t.2.2.length t.2.1.2,.int .i64 x.1.1,.int .i64 x.1.2.1,.string x.1.2.2,.slice x.2.1.1 x.2.2.length x.2.1.2,.string s,.int .i64 v] 92)).heap.size (wr.alloc (.cells #[.int .i64 2,.int .i64 t.1.1,.int .i64 t.1.2.1,.string t.1.2.2,.slice t.2.1.1 t.2.2.length t.2.1.2,.int .i64 x.1.1,.int .i64 x.1.2.1,.string x.1.2.2,.slice x.2.1.1 x.2.2.length x.2.1.2,.string s,.int .i64 v] 92)) (pu wr t x s v).drew):=⟨by go_grown,by go_grown⟩
    have HX:Hid (In (pu wr t x s v).drew.heap.size (pu wr t x s v).drew (n+2) (((4,0,.empty),(some ⟨wr.heap.size+1+1+1,0,none⟩,4),[ay gV n,ay s n,x,aQ 5 v n]):Tm (n+2))/\Off (fun b=>b<B∨wr.heap.size<=b) (n+2) (((4,0,.empty),(some ⟨wr.heap.size+1+1+1,0,none⟩,4),[ay gV n,ay s n,x,aQ 5 v n]):Tm (n+2))/\same (n+2) (((4,0,.empty),(some ⟨wr.heap.size+1+1+1,0,none⟩,4),[ay gV n,ay s n,x,aQ 5 v n]):Tm (n+2)) (n+2) (bV (n+1) [ay gV n,ay s n,x,aQ 5 v n])=true):=qI (w1:=(((wr.alloc (.cells #[.int .i64 2,.int .i64 t.1.1,.int .i64 t.1.2.1,.string t.1.2.2,.slice t.2.1.1 t.2.2.length t.2.1.2,.int .i64 x.1.1,.int .i64 x.1.2.1,.string x.1.2.2,.slice x.2.1.1 x.2.2.length x.2.1.2,.string s,.int .i64 v] 92)).alloc (.cells #[.int .i64 2,.int .i64 0,.string ⟨#[115,112,97,119,110]⟩,.slice none 0 0] 25)).alloc (.cells #[.int .i64 2,.int .i64 0,.string s,.slice none 0 0] 25))) (cs:= #[.int .i64 2,.int .i64 0,.string ⟨#[115,112,97,119,110]⟩,.slice none 0 0,.int .i64 2,.int .i64 0,.string s,.slice none 0 0,.int .i64 x.1.1,.int .i64 x.1.2.1,.string x.1.2.2,.slice x.2.1.1 x.2.2.length x.2.1.2,.int .i64 5,.int .i64 v,.string ⟨#[]⟩,.slice none 0 0]) [ay gV n,ay s n,x,aQ 5 v n] (by go_grown) (by simp) rfl (by go_grown) rfl (by simp) (by omega) HXS.out
    have HNB:Hid ((pu wr t x s v).drew.heap[wr.heap.size+1+1+1+1+1]? =some (.cells #[.int .i64 4,.int .i64 0,.string ⟨#[]⟩,.slice (some ⟨wr.heap.size+1+1+1,0,none⟩) 4 4] 25)):=iC (((((wr.alloc (.cells #[.int .i64 2,.int .i64 t.1.1,.int .i64 t.1.2.1,.string t.1.2.2,.slice t.2.1.1 t.2.2.length t.2.1.2,.int .i64 x.1.1,.int .i64 x.1.2.1,.string x.1.2.2,.slice x.2.1.1 x.2.2.length x.2.1.2,.string s,.int .i64 v] 92)).alloc (.cells #[.int .i64 2,.int .i64 0,.string ⟨#[115,112,97,119,110]⟩,.slice none 0 0] 25)).alloc (.cells #[.int .i64 2,.int .i64 0,.string s,.slice none 0 0] 25)).alloc (.cells #[.int .i64 2,.int .i64 0,.string ⟨#[115,112,97,119,110]⟩,.slice none 0 0,.int .i64 2,.int .i64 0,.string s,.slice none 0 0,.int .i64 x.1.1,.int .i64 x.1.2.1,.string x.1.2.2,.slice x.2.1.1 x.2.2.length x.2.1.2,.int .i64 5,.int .i64 v,.string ⟨#[]⟩,.slice none 0 0] 25)).alloc (.cells #[.int .i64 4,.int .i64 0,.string ⟨#[]⟩,.slice (some ⟨wr.heap.size+1+1+1,0,none⟩) 4 4] 25)) _ (by simp)
    have HWZ:Hid (((pu wr t x s v).drew).heap.size=wr.heap.size+1+1+1+1+1+1):=(show _=_ by simp[World.drew])
    have HAP:=fun(g c:Nat) (w4:World) hown hgrow hat=>hide (HG3.out.appAt (W:=(pu wr t x s v).drew) (w4:=w4) (g:=g) (c:=c) HL3.out (by omega) hb3 HWf.out.1 (((4,0,.empty),(some ⟨wr.heap.size+1+1+1,0,none⟩,4),[ay gV n,ay s n,x,aQ 5 v n]):Tm (n+2)) HX.out.1 HX.out.2.1 hown hgrow hat)
    have HBX:=fun(w4:World) (hgrow:World.grownBy (pu wr t x s v).drew w4 (Value.slice va3 L3 vc3).ownBlock)=>hide ((kR hgrow (q:=wr.heap.size) (Nat.lt_of_lt_of_le (by simp) HWf.out.2.size) (HG3.out.apart (Or.inl (Nat.le_refl _)))).trans ((HWf.out.2.block wr.heap.size (by simp)).trans (heap_alloc_new wr _)))
    have HOW:=hide (HG3.out.ownAt HL3.out HWf.out.1)
    clear HWf HG3
    go_region_held3 (fun w'=>w'.cell? ⟨wr.heap.size,5,none⟩=some (.int .i64 x.1.1)/\w'.cell? ⟨wr.heap.size,6,none⟩=some (.int .i64 x.1.2.1)/\w'.cell? ⟨wr.heap.size,7,none⟩=some (.string x.1.2.2)/\w'.cell? ⟨wr.heap.size,8,none⟩=some (.slice x.2.1.1 x.2.2.length x.2.1.2)/\w'.cell? ⟨wr.heap.size,9,none⟩=some (.string s)/\w'.cell? ⟨wr.heap.size,10,none⟩=some (.int .i64 v)) (first|(go_keep;done)|(simp[go_sem];done))
     ((first
      | (go_at_call 29;refine(gD _ _).mono ?_;rintro e w1 ⟨rfl,rfl⟩)
      | (go_at_call 30;refine(dV _ _ _ _).mono ?_;rintro e w1 ⟨rfl,rfl⟩)
      | (refine step_append_lies _ rfl _ _ 23 rfl wz.heap.size 25 it _ 4 56 Tryz.underlying23 HT.out.1 HT.out.2.1 HT.out.2.2.1 HT.out.2.2.2 rfl (by decide) (.slice va3 L3 vc3) L3 (xs3.flatMap (fw (n+2))) (by simp[Act.eval]) HOW.out ⟨wr.heap.size+1+1+1+1+1,0,none⟩ 1 1 (fw (n+2) (((4,0,.empty),(some ⟨wr.heap.size+1+1+1,0,none⟩,4),[ay gV n,ay s n,x,aQ 5 v n]):Tm (n+2))) (by simp[Act.eval]) rfl (World.news_of_block (cs:= #[.int .i64 4,.int .i64 0,.string ⟨#[]⟩,.slice (some ⟨wr.heap.size+1+1+1,0,none⟩) 4 4]) (t:=25) (fr:=(0,0)) HNB.out) (gZ _ _) (by decide) (by unfold maxLen;omega) (by omega) (by refine Nat.le_trans ?_ (Nat.le_of_eq HWZ.out.symm);omega) (wr.heap.size+1+1+1+1+1+1) HWZ.out ?_;intro g4 c4 w4 hown4 hgrow4 hat4 hlt4;have HS4:=HAP g4 c4 w4 hown4 hgrow4 (by rw[HWZ.out];exact hat4);have HBX4:=HBX w4 hgrow4;obtain⟨b1,b2,b3,b4,b5,b6,b7,b8,b9,b10⟩:=lD HBX4.out;have hw4:wr.heap.size<w4.heap.size:=(Array.getElem?_eq_some_iff.1 HBX4.out).1;clear hown4 hgrow4 hat4 hlt4 HAP HBX HOW HNB HWZ)))
    have HNt:Hid (∀w1,Below wz.heap.size wz w1->Calls Tryz.prog 28 #[.agg #[.int .i64 t.1.1,.int .i64 t.1.2.1,.string t.1.2.2,.slice t.2.1.1 t.2.2.length t.2.1.2]] w1 fun e w'=>e=.returned (.bool (aS (n+1) t))/\Below w1.heap.size w1 w'):=fun w1 h=>nU n t B w1 (HIw.out w1 h).1 (Nat.le_trans (by omega) h.size)
    have HAB:Hid (iN (n+1) (2,(t,x),(s,v))=(aS (n+1) t && bJ s && eZ v 0 3)):=Hd t x s v
    have HNm:=fun w1=>hide (fP s w1 hsz)
    have HIn:=fun w1=>hide (fe v 0 3 w1)
    generalize aS (n+1) t=rt at*
    generalize bJ s=rn at*
    generalize eZ v 0 3=ri at*
    cases ok3
    ·go_wp2_with fail
     go_roundw
     case rel=>exact⟨q+1,_,false,by omega,by go_num,rfl,rfl,RowI.mk (ok:=false) HZ3.out (by rw[HL3.out];exact hL3') (fun h=>by cases h) HS4.out (fun h=>by cases h),HOKn.out _ (by simp)⟩
     case measure=>simp[intOf];omega
    ·cases rn
     ·go_wp2_with (go_at_call 25;refine(HNm _).out.mono ?_;rintro e w' ⟨rfl,rfl⟩)
      go_roundw
      case rel=>exact⟨q+1,_,false,by omega,by go_num,rfl,rfl,RowI.mk (ok:=false) HZ3.out (by rw[HL3.out];exact hL3') (fun h=>by cases h) HS4.out (fun h=>by cases h),HOKn.out _ (by simp[HAB.out])⟩
      case measure=>simp[intOf];omega
     ·cases ri
      ·go_wp2_with (first|(go_at_call 25;refine(HNm _).out.mono ?_;rintro e w' ⟨rfl,rfl⟩)|(go_at_call 9;refine(HIn _).out.mono ?_;rintro e w' ⟨rfl,rfl⟩))
       go_roundw
       case rel=>exact⟨q+1,_,false,by omega,by go_num,rfl,rfl,RowI.mk (ok:=false) HZ3.out (by rw[HL3.out];exact hL3') (fun h=>by cases h) HS4.out (fun h=>by cases h),HOKn.out _ (by simp[HAB.out])⟩
       case measure=>simp[intOf];omega
      ·go_wp2_with (first|(go_at_call 25;refine(HNm _).out.mono ?_;rintro e w' ⟨rfl,rfl⟩)|(go_at_call 9;refine(HIn _).out.mono ?_;rintro e w' ⟨rfl,rfl⟩)|(go_at_call 28;refine(HNt.out _ HS4.out.1).mono ?_;rintro e w6 ⟨rfl,hb6⟩;have HS6:=hide (HS4.out.later (aX _) (by have:=HS4.out.1.size;omega) hb6);clear hb6))
       go_roundw
       case rel=>exact⟨q+1,_,rt,by omega,by go_num,rfl,rfl,RowI.mk (ok:=true) HZ3.out (by rw[HL3.out];exact hL3') (fun _=>HS3.out (by simp)) HS6.out (fun _=>⟨rfl,HX.out.2.2⟩),HOKn.out _ (by simp[HAB.out])⟩
       case measure=>simp[intOf];omega
   by_cases k3:K=3
   ·subst k3
    have HXS:Hid (∀y∈[ay jD n,t],In B wr (n+1) y):=fun y hy=>by
     simp only[List.mem_cons,List.not_mem_nil,or_false]at hy
     rcases hy with rfl|rfl
     ·exact bO _ _ (dO _ (by decide)) _ _
     ·exact(HIw.out wr HB3.out).1
    go_wp2_with fail
    have HWf:Hid (Below wr.heap.size wr (pF wr t x s v).drew/\Below (wr.alloc (.cells #[.int .i64 3,.int .i64 t.1.1,.int .i64 t.1.2.1,.string t.1.2.2,.slice t.2.1.1 t.2.2.length t.2.1.2,.int .i64 x.1.1,.int .i64 x.1.2.1,.string x.1.2.2,.slice x.2.1.1 x.2.2.length x.2.1.2,.string s,.int .i64 v] 92)).heap.size (wr.alloc (.cells #[.int .i64 3,.int .i64 t.1.1,.int .i64 t.1.2.1,.string t.1.2.2,.slice t.2.1.1 t.2.2.length t.2.1.2,.int .i64 x.1.1,.int .i64 x.1.2.1,.string x.1.2.2,.slice x.2.1.1 x.2.2.length x.2.1.2,.string s,.int .i64 v] 92)) (pF wr t x s v).drew):=⟨by go_grown,by go_grown⟩
    have HX:Hid (In (pF wr t x s v).drew.heap.size (pF wr t x s v).drew (n+2) (((4,0,.empty),(some ⟨wr.heap.size+1+1,0,none⟩,2),[ay jD n,t]):Tm (n+2))/\Off (fun b=>b<B∨wr.heap.size<=b) (n+2) (((4,0,.empty),(some ⟨wr.heap.size+1+1,0,none⟩,2),[ay jD n,t]):Tm (n+2))/\same (n+2) (((4,0,.empty),(some ⟨wr.heap.size+1+1,0,none⟩,2),[ay jD n,t]):Tm (n+2)) (n+2) (bV (n+1) [ay jD n,t])=true):=qI (w1:=((wr.alloc (.cells #[.int .i64 3,.int .i64 t.1.1,.int .i64 t.1.2.1,.string t.1.2.2,.slice t.2.1.1 t.2.2.length t.2.1.2,.int .i64 x.1.1,.int .i64 x.1.2.1,.string x.1.2.2,.slice x.2.1.1 x.2.2.length x.2.1.2,.string s,.int .i64 v] 92)).alloc (.cells #[.int .i64 2,.int .i64 0,.string ⟨#[108,105,110,107]⟩,.slice none 0 0] 25))) (cs:= #[.int .i64 2,.int .i64 0,.string ⟨#[108,105,110,107]⟩,.slice none 0 0,.int .i64 t.1.1,.int .i64 t.1.2.1,.string t.1.2.2,.slice t.2.1.1 t.2.2.length t.2.1.2]) [ay jD n,t] (by go_grown) (by simp) rfl (by go_grown) rfl (by simp) (by omega) HXS.out
    have HNB:Hid ((pF wr t x s v).drew.heap[wr.heap.size+1+1+1+1]? =some (.cells #[.int .i64 4,.int .i64 0,.string ⟨#[]⟩,.slice (some ⟨wr.heap.size+1+1,0,none⟩) 2 2] 25)):=iC ((((wr.alloc (.cells #[.int .i64 3,.int .i64 t.1.1,.int .i64 t.1.2.1,.string t.1.2.2,.slice t.2.1.1 t.2.2.length t.2.1.2,.int .i64 x.1.1,.int .i64 x.1.2.1,.string x.1.2.2,.slice x.2.1.1 x.2.2.length x.2.1.2,.string s,.int .i64 v] 92)).alloc (.cells #[.int .i64 2,.int .i64 0,.string ⟨#[108,105,110,107]⟩,.slice none 0 0] 25)).alloc (.cells #[.int .i64 2,.int .i64 0,.string ⟨#[108,105,110,107]⟩,.slice none 0 0,.int .i64 t.1.1,.int .i64 t.1.2.1,.string t.1.2.2,.slice t.2.1.1 t.2.2.length t.2.1.2] 25)).alloc (.cells #[.int .i64 4,.int .i64 0,.string ⟨#[]⟩,.slice (some ⟨wr.heap.size+1+1,0,none⟩) 2 2] 25)) _ (by simp)
    have HWZ:Hid (((pF wr t x s v).drew).heap.size=wr.heap.size+1+1+1+1+1):=(show _=_ by simp[World.drew])
    have HAP:=fun(g c:Nat) (w4:World) hown hgrow hat=>hide (HG3.out.appAt (W:=(pF wr t x s v).drew) (w4:=w4) (g:=g) (c:=c) HL3.out (by omega) hb3 HWf.out.1 (((4,0,.empty),(some ⟨wr.heap.size+1+1,0,none⟩,2),[ay jD n,t]):Tm (n+2)) HX.out.1 HX.out.2.1 hown hgrow hat)
    have HBX:=fun(w4:World) (hgrow:World.grownBy (pF wr t x s v).drew w4 (Value.slice va3 L3 vc3).ownBlock)=>hide ((kR hgrow (q:=wr.heap.size) (Nat.lt_of_lt_of_le (by simp) HWf.out.2.size) (HG3.out.apart (Or.inl (Nat.le_refl _)))).trans ((HWf.out.2.block wr.heap.size (by simp)).trans (heap_alloc_new wr _)))
    have HOW:=hide (HG3.out.ownAt HL3.out HWf.out.1)
    clear HWf HG3
    go_region_held3 (fun w'=>w'.cell? ⟨wr.heap.size,1,none⟩=some (.int .i64 t.1.1)/\w'.cell? ⟨wr.heap.size,2,none⟩=some (.int .i64 t.1.2.1)/\w'.cell? ⟨wr.heap.size,3,none⟩=some (.string t.1.2.2)/\w'.cell? ⟨wr.heap.size,4,none⟩=some (.slice t.2.1.1 t.2.2.length t.2.1.2)) (first|(go_keep;done)|(simp[go_sem];done))
     ((first
      | (go_at_call 29;refine(gD _ _).mono ?_;rintro e w1 ⟨rfl,rfl⟩)
      | (go_at_call 30;refine(dV _ _ _ _).mono ?_;rintro e w1 ⟨rfl,rfl⟩)
      | (refine step_append_lies _ rfl _ _ 23 rfl wz.heap.size 25 it _ 4 56 Tryz.underlying23 HT.out.1 HT.out.2.1 HT.out.2.2.1 HT.out.2.2.2 rfl (by decide) (.slice va3 L3 vc3) L3 (xs3.flatMap (fw (n+2))) (by simp[Act.eval]) HOW.out ⟨wr.heap.size+1+1+1+1,0,none⟩ 1 1 (fw (n+2) (((4,0,.empty),(some ⟨wr.heap.size+1+1,0,none⟩,2),[ay jD n,t]):Tm (n+2))) (by simp[Act.eval]) rfl (World.news_of_block (cs:= #[.int .i64 4,.int .i64 0,.string ⟨#[]⟩,.slice (some ⟨wr.heap.size+1+1,0,none⟩) 2 2]) (t:=25) (fr:=(0,0)) HNB.out) (gZ _ _) (by decide) (by unfold maxLen;omega) (by omega) (by refine Nat.le_trans ?_ (Nat.le_of_eq HWZ.out.symm);omega) (wr.heap.size+1+1+1+1+1) HWZ.out ?_;intro g4 c4 w4 hown4 hgrow4 hat4 hlt4;have HS4:=HAP g4 c4 w4 hown4 hgrow4 (by rw[HWZ.out];exact hat4);have HBX4:=HBX w4 hgrow4;obtain⟨b1,b2,b3,b4,b5,b6,b7,b8,b9,b10⟩:=lD HBX4.out;have hw4:wr.heap.size<w4.heap.size:=(Array.getElem?_eq_some_iff.1 HBX4.out).1;clear hown4 hgrow4 hat4 hlt4 HAP HBX HOW HNB HWZ)))
    have HNx:Hid (∀w1,Below wz.heap.size wz w1->Calls Tryz.prog 28 #[.agg #[.int .i64 x.1.1,.int .i64 x.1.2.1,.string x.1.2.2,.slice x.2.1.1 x.2.2.length x.2.1.2]] w1 fun e w'=>e=.returned (.bool (aS (n+1) x))/\Below w1.heap.size w1 w'):=fun w1 h=>nU n x B w1 (HIw.out w1 h).2 (Nat.le_trans (by omega) h.size)
    have HAB:Hid (iN (n+1) (3,(t,x),(s,v))=(aS (n+1) x && (s.toList.isEmpty && v==0))):=rfl
    generalize aS (n+1) x=rx at*
    cases ok3
    ·go_wp2_with fail
     go_roundw
     case rel=>exact⟨q+1,_,false,by omega,by go_num,rfl,rfl,RowI.mk (ok:=false) HZ3.out (by rw[HL3.out];exact hL3') (fun h=>by cases h) HS4.out (fun h=>by cases h),HOKn.out _ (by simp)⟩
     case measure=>simp[intOf];omega
    ·cases h3:s.toList.isEmpty
     ·go_wp2_with fail
      go_roundw
      case rel=>exact⟨q+1,_,false,by omega,by go_num,rfl,rfl,RowI.mk (ok:=false) HZ3.out (by rw[HL3.out];exact hL3') (fun h=>by cases h) HS4.out (fun h=>by cases h),HOKn.out _ (by simp[HAB.out,h3])⟩
      case measure=>simp[intOf];omega
     ·cases hv:v==0
      ·go_wp2_with fail
       go_roundw
       case rel=>exact⟨q+1,_,false,by omega,by go_num,rfl,rfl,RowI.mk (ok:=false) HZ3.out (by rw[HL3.out];exact hL3') (fun h=>by cases h) HS4.out (fun h=>by cases h),HOKn.out _ (by simp[HAB.out,hv])⟩
       case measure=>simp[intOf];omega
      ·go_wp2_with (go_at_call 28;refine(HNx.out _ HS4.out.1).mono ?_;rintro e w6 ⟨rfl,hb6⟩;have HS6:=hide (HS4.out.later (aX _) (by have:=HS4.out.1.size;omega) hb6);clear hb6)
       go_roundw
       case rel=>exact⟨q+1,_,rx,by omega,by go_num,rfl,rfl,RowI.mk (ok:=true) HZ3.out (by rw[HL3.out];exact hL3') (fun _=>HS3.out (by simp)) HS6.out (fun _=>⟨rfl,HX.out.2.2⟩),HOKn.out _ (by simp[HAB.out,h3,hv])⟩
       case measure=>simp[intOf];omega
   by_cases k4:K=4
   ·subst k4
    have HXS:Hid (∀y∈[ay jP n],In B wr (n+1) y):=fun y hy=>by
     simp only[List.mem_cons,List.not_mem_nil,or_false]at hy
     subst hy
     exact bO _ _ (dO _ (by decide)) _ _
    have HNt:Hid (∀w1,Below wz.heap.size wz w1->Calls Tryz.prog 28 #[.agg #[.int .i64 t.1.1,.int .i64 t.1.2.1,.string t.1.2.2,.slice t.2.1.1 t.2.2.length t.2.1.2]] w1 fun e w'=>e=.returned (.bool (aS (n+1) t))/\Below w1.heap.size w1 w'):=fun w1 h=>nU n t B w1 (HIw.out w1 h).1 (Nat.le_trans (by omega) h.size)
    have HNx:Hid (∀w1,Below wz.heap.size wz w1->Calls Tryz.prog 28 #[.agg #[.int .i64 x.1.1,.int .i64 x.1.2.1,.string x.1.2.2,.slice x.2.1.1 x.2.2.length x.2.1.2]] w1 fun e w'=>e=.returned (.bool (aS (n+1) x))/\Below w1.heap.size w1 w'):=fun w1 h=>nU n x B w1 (HIw.out w1 h).2 (Nat.le_trans (by omega) h.size)
    have HAB:Hid (iN (n+1) (4,(t,x),(s,v))=(aS (n+1) t && aS (n+1) x && (s.toList.isEmpty && v==0))):=rfl
    generalize aS (n+1) t=rt at*
    generalize aS (n+1) x=rx at*
    have HWf:Hid (Below wr.heap.size wr (pE wr t x s v)/\Below (wr.alloc (.cells #[.int .i64 4,.int .i64 t.1.1,.int .i64 t.1.2.1,.string t.1.2.2,.slice t.2.1.1 t.2.2.length t.2.1.2,.int .i64 x.1.1,.int .i64 x.1.2.1,.string x.1.2.2,.slice x.2.1.1 x.2.2.length x.2.1.2,.string s,.int .i64 v] 92)).heap.size (wr.alloc (.cells #[.int .i64 4,.int .i64 t.1.1,.int .i64 t.1.2.1,.string t.1.2.2,.slice t.2.1.1 t.2.2.length t.2.1.2,.int .i64 x.1.1,.int .i64 x.1.2.1,.string x.1.2.2,.slice x.2.1.1 x.2.2.length x.2.1.2,.string s,.int .i64 v] 92)) (pE wr t x s v)):=⟨by go_grown,by go_grown⟩
    have HX:Hid (In (pE wr t x s v).heap.size (pE wr t x s v) (n+2) (((4,0,.empty),(some ⟨wr.heap.size+1+1,0,none⟩,1),[ay jP n]):Tm (n+2))/\Off (fun b=>b<B∨wr.heap.size<=b) (n+2) (((4,0,.empty),(some ⟨wr.heap.size+1+1,0,none⟩,1),[ay jP n]):Tm (n+2))/\same (n+2) (((4,0,.empty),(some ⟨wr.heap.size+1+1,0,none⟩,1),[ay jP n]):Tm (n+2)) (n+2) (bV (n+1) [ay jP n])=true):=qI (w1:=((wr.alloc (.cells #[.int .i64 4,.int .i64 t.1.1,.int .i64 t.1.2.1,.string t.1.2.2,.slice t.2.1.1 t.2.2.length t.2.1.2,.int .i64 x.1.1,.int .i64 x.1.2.1,.string x.1.2.2,.slice x.2.1.1 x.2.2.length x.2.1.2,.string s,.int .i64 v] 92)).alloc (.cells #[.int .i64 2,.int .i64 0,.string ⟨#[115,116,111,112]⟩,.slice none 0 0] 25))) (cs:= #[.int .i64 2,.int .i64 0,.string ⟨#[115,116,111,112]⟩,.slice none 0 0]) [ay jP n] (by go_grown) (by simp) rfl (by go_grown) rfl (by simp) (by omega) HXS.out
    have HNB:Hid ((pE wr t x s v).heap[wr.heap.size+1+1+1+1]? =some (.cells #[.int .i64 4,.int .i64 0,.string ⟨#[]⟩,.slice (some ⟨wr.heap.size+1+1,0,none⟩) 1 1] 25)):=lu ((((wr.alloc (.cells #[.int .i64 4,.int .i64 t.1.1,.int .i64 t.1.2.1,.string t.1.2.2,.slice t.2.1.1 t.2.2.length t.2.1.2,.int .i64 x.1.1,.int .i64 x.1.2.1,.string x.1.2.2,.slice x.2.1.1 x.2.2.length x.2.1.2,.string s,.int .i64 v] 92)).alloc (.cells #[.int .i64 2,.int .i64 0,.string ⟨#[115,116,111,112]⟩,.slice none 0 0] 25)).alloc (.cells #[.int .i64 2,.int .i64 0,.string ⟨#[115,116,111,112]⟩,.slice none 0 0] 25)).alloc (.cells #[.int .i64 4,.int .i64 0,.string ⟨#[]⟩,.slice (some ⟨wr.heap.size+1+1,0,none⟩) 1 1] 25)) _ (by simp)
    have HWZ:Hid (((pE wr t x s v)).heap.size=wr.heap.size+1+1+1+1+1):=(show _=_ by simp)
    have HAP:=fun(g c:Nat) (w4:World) hown hgrow hat=>hide (HG3.out.appAt (W:=(pE wr t x s v)) (w4:=w4) (g:=g) (c:=c) HL3.out (by omega) hb3 HWf.out.1 (((4,0,.empty),(some ⟨wr.heap.size+1+1,0,none⟩,1),[ay jP n]):Tm (n+2)) HX.out.1 HX.out.2.1 hown hgrow hat)
    have HBX:=fun(w4:World) (hgrow:World.grownBy (pE wr t x s v) w4 (Value.slice va3 L3 vc3).ownBlock)=>hide ((kR hgrow (q:=wr.heap.size) (Nat.lt_of_lt_of_le (by simp) HWf.out.2.size) (HG3.out.apart (Or.inl (Nat.le_refl _)))).trans ((HWf.out.2.block wr.heap.size (by simp)).trans (heap_alloc_new wr _)))
    have HOW:=hide (HG3.out.ownAt HL3.out HWf.out.1)
    clear HWf HG3
    go_upto_region 32 with(first
        | (go_at_call 29;refine(gD _ _).mono ?_;rintro e w1 ⟨rfl,rfl⟩)
        | (go_at_call 30;refine(dV _ _ _ _).mono ?_;rintro e w1 ⟨rfl,rfl⟩)
        | (at_builtin;refine wpList_append_lies _ rfl _ _ 23 rfl wz.heap.size 25 it _ 4 56 Tryz.underlying23 HT.out.1 HT.out.2.1 HT.out.2.2.1 HT.out.2.2.2 rfl (by decide) (.slice va3 L3 vc3) L3 (xs3.flatMap (fw (n+2))) (by simp[Act.eval]) HOW.out ⟨wr.heap.size+1+1+1+1,0,none⟩ 1 1 (fw (n+2) (((4,0,.empty),(some ⟨wr.heap.size+1+1,0,none⟩,1),[ay jP n]):Tm (n+2))) (by simp[Act.eval]) rfl (World.news_of_block (cs:= #[.int .i64 4,.int .i64 0,.string ⟨#[]⟩,.slice (some ⟨wr.heap.size+1+1,0,none⟩) 1 1]) (t:=25) (fr:=(0,0)) HNB.out) (gZ _ _) (by decide) (by unfold maxLen;omega) (by omega) (by refine Nat.le_trans ?_ (Nat.le_of_eq HWZ.out.symm);omega) (wr.heap.size+1+1+1+1+1) HWZ.out ?_;intro g4 c4 w4 hown4 hgrow4 hat4 hlt4;have HS4:=HAP g4 c4 w4 hown4 hgrow4 (by rw[HWZ.out];exact hat4);have HBX4:=HBX w4 hgrow4;obtain⟨b1,b2,b3,b4,b5,b6,b7,b8,b9,b10⟩:=lD HBX4.out;have hw4:wr.heap.size<w4.heap.size:=(Array.getElem?_eq_some_iff.1 HBX4.out).1;clear hown4 hgrow4 hat4 hlt4 HAP HBX HOW HNB HWZ))
    cases ok3
    ·go_wp2_with fail
     go_roundw
     case rel=>exact⟨q+1,_,false,by omega,by go_num,rfl,rfl,RowI.mk (ok:=false) HZ3.out (by rw[HL3.out];exact hL3') (fun h=>by cases h) HS4.out (fun h=>by cases h),HOKn.out _ (by simp)⟩
     case measure=>simp[intOf];omega
    ·cases h3:s.toList.isEmpty
     ·go_wp2_with fail
      go_roundw
      case rel=>exact⟨q+1,_,false,by omega,by go_num,rfl,rfl,RowI.mk (ok:=false) HZ3.out (by rw[HL3.out];exact hL3') (fun h=>by cases h) HS4.out (fun h=>by cases h),HOKn.out _ (by simp[HAB.out,h3])⟩
      case measure=>simp[intOf];omega
     ·cases hv:v==0
      ·go_wp2_with fail
       go_roundw
       case rel=>exact⟨q+1,_,false,by omega,by go_num,rfl,rfl,RowI.mk (ok:=false) HZ3.out (by rw[HL3.out];exact hL3') (fun h=>by cases h) HS4.out (fun h=>by cases h),HOKn.out _ (by simp[HAB.out,hv])⟩
       case measure=>simp[intOf];omega
      ·cases rt
       ·go_wp2_with (go_at_call 28;refine(HNt.out _ HS4.out.1).mono ?_;rintro e w5 ⟨rfl,hb5⟩;have HS5:=hide (HS4.out.later (aX _) (by have:=HS4.out.1.size;omega) hb5);have HBX5:=hide ((hb5.block _ hw4).trans HBX4.out);obtain⟨_,_,_,_,e5,e6,e7,e8,_,_⟩:=lD HBX5.out;have hw5:wr.heap.size<w5.heap.size:=(Array.getElem?_eq_some_iff.1 HBX5.out).1;clear hb5)
        go_roundw
        case rel=>exact⟨q+1,_,false,by omega,by go_num,rfl,rfl,RowI.mk (ok:=false) HZ3.out (by rw[HL3.out];exact hL3') (fun h=>by cases h) HS5.out (fun h=>by cases h),HOKn.out _ (by simp[HAB.out])⟩
        case measure=>simp[intOf];omega
       ·go_wp2_with (first|(go_at_call 28;refine(HNt.out _ HS4.out.1).mono ?_;rintro e w5 ⟨rfl,hb5⟩;have HS5:=hide (HS4.out.later (aX _) (by have:=HS4.out.1.size;omega) hb5);have HBX5:=hide ((hb5.block _ hw4).trans HBX4.out);obtain⟨_,_,_,_,e5,e6,e7,e8,_,_⟩:=lD HBX5.out;have hw5:wr.heap.size<w5.heap.size:=(Array.getElem?_eq_some_iff.1 HBX5.out).1;clear hb5)|(go_at_call 28;refine(HNx.out _ HS5.out.1).mono ?_;rintro e w6 ⟨rfl,hb6⟩;have HS6:=hide (HS5.out.later (aX _) (by have:=HS5.out.1.size;omega) hb6);clear hb6))
        go_roundw
        case rel=>exact⟨q+1,_,rx,by omega,by go_num,rfl,rfl,RowI.mk (ok:=true) HZ3.out (by rw[HL3.out];exact hL3') (fun _=>HS3.out (by simp)) HS6.out (fun _=>⟨rfl,HX.out.2.2⟩),HOKn.out _ (by simp[HAB.out,h3,hv])⟩
        case measure=>simp[intOf];omega
   have e1:(K==1)=false:=by simpa using k1
   have e2:(K==2)=false:=by simpa using k2
   have e3:(K==3)=false:=by simpa using k3
   have e4:(K==4)=false:=by simpa using k4
   have HAB:Hid (iN (n+1) (K,(t,x),(s,v))=false):=(by simp[iN,k1,k2,k3,k4,Hid])
   have HGL:=hide (HG3.out.later (aX _) hb3 (aM (o:=.cells #[.int .i64 K,.int .i64 t.1.1,.int .i64 t.1.2.1,.string t.1.2.2,.slice t.2.1.1 t.2.2.length t.2.1.2,.int .i64 x.1.1,.int .i64 x.1.2.1,.string x.1.2.2,.slice x.2.1.1 x.2.2.length x.2.1.2,.string s,.int .i64 v] 92)))
   clear k1 k2 k3 k4 HG3
   go_wp2_with fail
   go_roundw
   case rel=>exact⟨q+1,_,false,by omega,by go_num,rfl,rfl,RowI.skip (by rw[HL3.out];exact hL3') HGL.out,HOKn.out _ (by simp[HAB.out])⟩
   case measure=>simp[intOf];omega
  ·obtain rfl:q=m3:=by omega
   go_wp2_with fail
   exact HK3.out _ _ _ _ _ _ _ _ _ _ _ _ _ _ _ _ _ _ _ _ _ _ _ _ _ _ _ _ _ _ _ _ _ _ _ _ _ _ _ _ _ _ _ _ _ _ _ _ _ _ _ _ _ _ _ _ _ _ _ _ _ _ _ _ _ _ _ _ _ _ _ _ _ _ _ _ _ _ _ _ _ _ _ _ _ _ _ _ _ _ _ _ _ _ _ _ _ _ _ _ _ _ _ _ _ _ _ _ _ _ _ _ _ _ _ _ _ _ _ _ _ _ _ _ _ _ _ _ _ _ _ _ HR
end Go.Proofs.YtbknffhilfoakaaGreat
