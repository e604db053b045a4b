/- What is proved here: plain facts and contracts that the claimed theorem stands on. No condition but those that each names. -/
import Derived.Test.YtmbjgiaebneodaaGreatG16
namespace Go.Proofs.YtmbjgiaebneodaaGreat
open Go.RowKit
set_option maxHeartbeats 1000000
set_option maxRecDepth 100000
def Stands (ws:List Wd) (nm:List ByteArray):(n:Nat)->Tm n->Wd->Prop
 | 0,_,_=>False
 | n+1,x,v=>(x.1.1=2->∃i:Nat,v=(2,(i:Int))/\nm[i]? =some x.1.2.2)/\
    (x.1.1=4->∃p:Nat,v=(4,(p:Int))/\ws[p]? =some (0,(x.2.2.length:Int))/\p+1+x.2.2.length<=ws.length/\∀(i:Nat) (y:Tm n),x.2.2[i]? =some y->∃u,ws[p+1+i]? =some u/\Stands ws nm n y u)/\
    (x.1.1≠2->x.1.1≠4->v=(x.1.1,x.1.2.1))
def dG (w:World) (vs:List Wd) (a:Option Addr):Prop:=vs=[]∨∃b o,a=some ⟨b,o,none⟩/\b<w.heap.size/\∀(i:Nat) (v:Wd),vs[i]? =some v->w.cell? ⟨b,o+i*2,none⟩=some (.int .i64 v.1)/\w.cell? ⟨b,o+i*2+1,none⟩=some (.int .i64 v.2)
def QL (n:Nat):Prop:=∀(x:Tm n) (v:Wd) (base:Nat) (hp:HLoc) (room:Int) (ws:List Wd) (nm:List ByteArray) (M:Nat->Prop) (w:World),HpAt base hp room ws nm M w->ws.length<=100000->nm.length<=100000->Stands ws nm n x v->ai ⟨n,x⟩->
 Calls Tryz.prog 99 #[.pointer (some ⟨hp.b,hp.o,none⟩),Jv v] w fun e w'=>∃y:Tm n,e=.returned (val n y)/\Hid (Below w.heap.size w w'/\In w'.heap.size w' n y/\Off (fun q=>w.heap.size<=q) n y/\same n y n x=true)
def BoxZ (q:Nat) (w:World):Prop:=w.heap[q]? =some (.cells #[.int .i64 0,.int .i64 0,.string .empty,.slice none 0 0] 30)
theorem BoxZ.kept {q:Nat} {w w':World} (h:BoxZ q w) (k:w'.heap[q]? =w.heap[q]?):BoxZ q w':=k.trans h
theorem BoxZ.cells {q:Nat} {w:World} (h:BoxZ q w):(w.cell? ⟨q,0,none⟩=some (.int .i64 0)/\w.cell? ⟨q,1,none⟩=some (.int .i64 0)/\w.cell? ⟨q,2,none⟩=some (.string .empty)/\w.cell? ⟨q,3,none⟩=some (.slice none 0 0))/\∀j,w.frozen? ⟨q,j,none⟩=false:=by
 unfold BoxZ at h
 refine⟨⟨?_, ?_, ?_, ?_⟩,fun j=> ?_⟩
 all_goals simp[World.cell?,World.frozen?,h]
theorem Ll {n:Nat} {p:List (Tm n)} {len:Nat} {w w0:World}
    (ho:w0.ownsRow (w.heap.size+1) 30 4 (.slice (some ⟨(w.alloc (.cells #[.int .i64 0,.int .i64 0,.string .empty,.slice none 0 0] 30)).heap.size,0,none⟩) len len) len (madeCells (Value.agg #[.int .i64 0,.int .i64 0,.string .empty,.slice none 0 0]).cells (len*4)).toList)
    (hg:(w.alloc (.cells #[.int .i64 0,.int .i64 0,.string .empty,.slice none 0 0] 30)).grownBy w0 none):
    Below w.heap.size w w0/\CpP n p len (w.heap.size+1) 0 [] w0/\BoxZ w.heap.size w0:=by
 have e:(w.alloc (.cells #[.int .i64 0,.int .i64 0,.string .empty,.slice none 0 0] 30)).heap.size=w.heap.size+1:=by simp
 have hb1:Below w.heap.size w (w.alloc (.cells #[.int .i64 0,.int .i64 0,.string .empty,.slice none 0 0] 30)):=(Below.refl _ _).alloc (Nat.le_refl _) _
 have hb2:Below (w.heap.size+1) (w.alloc (.cells #[.int .i64 0,.int .i64 0,.string .empty,.slice none 0 0] 30)) w0:=⟨hg.os,hg.tape,hg.output,hg.size,fun b hb=>hg.block b (by omega) (by simp)⟩
 have hcp:=qd (w:=w.alloc (.cells #[.int .i64 0,.int .i64 0,.string .empty,.slice none 0 0] 30)) n p len (by rw[e]at ho ⊢;exact ho)
 rw[e]at hcp
 exact⟨hb1.trans (hb2.mono (by omega)),hcp,(hb2.block _ (by omega)).trans (heap_alloc_new w _)⟩
theorem CpP.end {n:Nat} {p:List (Tm n)} {len g:Nat} {l:List (Tm n)} {w wr:World} (h:CpP n p len g len l wr) (hl:p.length=len) (hg:g=w.heap.size+1) (hb:Below w.heap.size w wr) (hm:len<=maxLen):
    ∀v0 v1 v2 v3,CpRow n p w (bK wr w.heap.size 0 v0 v1 v2 v3) (some ⟨g,0,none⟩) len l:=by
 intro v0 v1 v2 v3
 obtain⟨h1,h2,h3,h4⟩:=h
 rw[List.take_of_length_le (by omega)]at h4
 rw[Nat.sub_self,List.replicate_zero,List.append_nil]at h2
 refine⟨⟨hb.os,hb.tape,hb.output,Nat.le_trans hb.size (Nat.le_of_eq (aJ _ _ _ _).symm),fun q hq=>(aA (by omega) _ _ _ _).trans (hb.block q hq)⟩,by omega,by omega,hm,h4,Or.inr ⟨g,0,rfl,⟨by omega,rfl,fun j=> ?_,fun y hy=>(h3 y hy).2.mono fun q hq=>by omega⟩,by rw[aJ];exact h2.lt.2,fun i y hy=> ?_⟩⟩
 ·have hf:=h2.free j
  unfold World.frozen? at hf ⊢
  rw[aA (w:=wr) (g:=w.heap.size) (b:=g) (o:=0) (by omega) v0 v1 v2 v3]
  exact hf
 have hc:=h2.cells i ⟨n,y⟩ (by simp[hy])
 have hin:=(h3 y (List.mem_of_getElem? hy)).1
 have hoff:=(h3 y (List.mem_of_getElem? hy)).2
 refine⟨?_, ?_,hoff.mono fun q hq=>by omega⟩
 ·cases n with
  | zero=>exact hin.elim
  | succ n=>
   rw[Nat.zero_add]
   exact Held.block (aA (by omega) _ _ _ _) (n:=n+1) (x:=y) hc
 ·rw[aJ]
  exact In.off (fun q hq=>aA (by omega) _ _ _ _) hoff hin
theorem Aa (n:Nat) (ih:QL n) (base:Nat) (hp:HLoc) (room:Int) (ws:List Wd) (nm:List ByteArray) (M:Nat->Prop) (a:Option Addr) (len pc:Nat) (p:List (Tm n)) (vs:List Wd) (hpl:Hid (p.length=len)) (hvl:Hid (vs.length=len)) (w:World) (h:Hid (HpAt base hp room ws nm M w)) (hlen:len<=8) (hw:Hid (ws.length<=100000)) (hn:Hid (nm.length<=100000))
    (hin:Hid (dG w vs a)) (hst:Hid (∀(i:Nat) (y:Tm n) (v:Wd),p[i]? =some y->vs[i]? =some v->Stands ws nm n y v)) (hrp:Hid (∀y∈p,ai ⟨n,y⟩)):
    Calls Tryz.prog 119 #[.pointer (some ⟨hp.b,hp.o,none⟩),.slice a len pc] w fun e w'=>∃a' c' l,e=.returned (.agg #[.int .i64 4,.int .i64 0,.string .empty,.slice a' len c'])/\Hid (CpRow n p w w' a' c' l):=by
 obtain⟨it,hit,htz0,htz1,htz2⟩:=info_parts gu
 go_enter Tryz.func119,Tryz.ntmps119
 go_wp2_with (at_make;refine wpList_make_full _ rfl _ _ 28 rfl (w.heap.size+1) 30 it _ 4 Tryz.underlying28 hit htz0 htz1 _ _ _ _ len rfl rfl rfl rfl (by rw[htz2];omega) (by unfold maxLen;omega) (by simp) ?_;intro w0 hown0 hgrow0;have HT:=hide (Ll (p:=p) hown0 hgrow0);clear hown0 hgrow0)
 clear hit htz0 htz1 htz2
 obtain⟨g,hg⟩:∃g,w.heap.size+1=g:=⟨_,rfl⟩
 rw[hg]at HT ⊢
 obtain⟨HB0,HP0,HR0⟩:Hid (Below w.heap.size w w0)/\Hid (CpP n p len g 0 [] w0)/\Hid (BoxZ w.heap.size w0):=HT.out
 clear HT
 go_loopw [13] (fun i wr=>∃k:Nat,k<=len/\i=.int .i64 k/\Hid (Below w.heap.size w wr/\BoxZ w.heap.size wr/\∃l,CpP n p len g k l wr)) (fun i _=>len-(intOf i).toNat)
 case atStart=>exact⟨0,by omega,rfl,HB0.out,HR0.out,[],HP0.out⟩
 case round=>
  clear HP0 HR0
  obtain⟨k,hk,rfl,HR⟩:=hrel
  obtain⟨HBr,HBx,l,HL⟩:Hid (Below w.heap.size w wr)/\Hid (BoxZ w.heap.size wr)/\∃l,Hid (CpP n p len g k l wr):=HR.out
  clear HR
  by_cases hlt:k<len
  ·obtain⟨x,hx⟩:∃x,p[k]? =some x:=⟨p[k]'(by rw[hpl.out];exact hlt),List.getElem?_eq_getElem _⟩
   obtain⟨v,hv⟩:∃v,vs[k]? =some v:=⟨vs[k]'(by rw[hvl.out];exact hlt),List.getElem?_eq_getElem _⟩
   obtain⟨b,o,rfl,hb,hvs⟩:∃b o,a=some ⟨b,o,none⟩/\b<w.heap.size/\∀(i:Nat) (v:Wd),vs[i]? =some v->w.cell? ⟨b,o+i*2,none⟩=some (.int .i64 v.1)/\w.cell? ⟨b,o+i*2+1,none⟩=some (.int .i64 v.2):=by
    rcases hin.out with e|e
    ·rw[e]at hv;simp at hv
    ·exact e
   obtain⟨v0,v1⟩:=hvs k v hv
   replace v0:=(af HBr.out b (o+k*2) hb).trans v0
   replace v1:=(af HBr.out b (o+k*2+1) hb).trans v1
   have HX:=hide hx
   have hgr:g<wr.heap.size:=HL.out.2.1.lt.2
   have HC:Hid (∀(w1:World),Below wr.heap.size wr w1->Calls Tryz.prog 99 #[.pointer (some ⟨hp.b,hp.o,none⟩),.agg #[.int .i64 v.1,.int .i64 v.2]] w1 fun e w'=>∃y:Tm n,e=.returned (val n y)/\Hid (Below w1.heap.size w1 w'/\In w'.heap.size w' n y/\Off (fun q=>w1.heap.size<=q) n y/\same n y n x=true)):=
    fun w1 h1=>ih x v base hp room ws nm _ w1 (h.out.later (HBr.out.trans (h1.mono HBr.out.size))) hw.out hn.out (hst.out k x v hx hv) (hrp.out x (List.mem_of_getElem? hx))
   clear ih hx hv hvs hin hst hrp h hw hn
   have hk1:(0:Int)<=(k:Int):=by omega
   have hk2:(k:Int)<(len:Int):=by omega
   have hpw:b<wr.heap.size:=by omega
   go_wp2_with fail
   refine(HC.out _ ((Below.refl _ _).alloc (Nat.le_refl _) _)).mono ?_
   rintro e w1 ⟨y,rfl,HY⟩
   have HB1:Hid (Below wr.heap.size wr w1):=((Below.refl _ _).alloc (Nat.le_refl _) _).trans (HY.out.1.mono (by simp))
   have HST:=hide (HL.out.step hlt x HX.out HB1.out y HY.out.2.1 (HY.out.2.2.1.mono fun q hq=>by simp at hq;omega) HY.out.2.2.2)
   have HH1:=hide (HL.out.2.1.below HB1.out)
   have HIY:=HY.out.2.1
   cases n with
   | zero=>exact HIY.elim
   | succ n=>
   clear HIY
   have HB2:Hid (Below w.heap.size w (iJ w1 g (k*4) (gZ (n+1) y))):=by
    have h1:=HBr.out.trans (HB1.out.mono HBr.out.size)
    exact⟨h1.os,h1.tape,h1.output,Nat.le_trans h1.size (Nat.le_of_eq (aJ _ _ _ _).symm),fun q hq=>(aA (by omega) _ _ _ _).trans (h1.block q hq)⟩
   have HBx2:Hid (BoxZ w.heap.size (iJ w1 g (k*4) (gZ (n+1) y))):=HBx.out.kept ((aA (by omega) _ _ _ _).trans (HB1.out.block _ (by omega)))
   obtain⟨z,hz⟩:∃z,(l.map (fun x=>(⟨n+1,x⟩:An))++List.replicate (len-k) zA)[k]? =some z:=⟨_,List.getElem?_eq_getElem (by simp[HL.out.1];omega)⟩
   obtain⟨c0,c1,c2,c3⟩:=HH1.out.cells k z hz
   have hf:=fun j=>HH1.out.free j
   have e3:val (n+1) y=.agg #[.int .i64 y.1.1,.int .i64 y.1.2.1,.string y.1.2.2,.slice y.2.1.1 y.2.2.length y.2.1.2]:=rfl
   rw[e3]
   clear HC HL HBr HY HB1 HH1 HBx v0 v1 hz e3
   go_wp2_with fail
   go_roundw
   case rel=>exact⟨k+1,by omega,by go_num,HB2.out,HBx2.out,l++ [y],HST.out⟩
   case measure=>simp[intOf];omega
  ·obtain rfl:k=len:=by omega
   have HD:=hide (HL.out.end hpl.out hg.symm HBr.out (by unfold maxLen;omega))
   obtain⟨⟨q0,q1,q2,q3⟩,f0⟩:=HBx.out.cells
   clear HL ih HBx
   go_wp2_with fail
   exact bodyPost_ret (v:=.agg #[.int .i64 4,.int .i64 0,.string .empty,.slice (some ⟨g,0,none⟩) k k]) (by simp[results,Tryz.results119,go_sem,q0,q1,q2,q3];rfl) rfl ⟨_,_,l,rfl,HD.out _ _ _ _⟩
theorem zb {w wA w2:World} (hA:Below w.heap.size w wA) (hb:Below wA.heap.size wA w2) (v0 v1 v2 v3:Value):Below w.heap.size w (bK w2 (w.heap.size+1) 0 v0 v1 v2 v3):=by
 have h1:=hA.trans (hb.mono hA.size)
 exact⟨h1.os,h1.tape,h1.output,Nat.le_trans h1.size (Nat.le_of_eq (aJ _ _ _ _).symm),fun q hq=>(aA (by omega) _ _ _ _).trans (h1.block q hq)⟩
theorem Iw (hp:HLoc) (k u:Int) (w:World) (h2:¬k=2) (h4:¬k=4):
    Calls Tryz.prog 99 #[.pointer (some ⟨hp.b,hp.o,none⟩),.agg #[.int .i64 k,.int .i64 u]] w fun e w'=>e=.returned (.agg #[.int .i64 k,.int .i64 u,.string .empty,.slice none 0 0])/\Below w.heap.size w w':=by
 have b2:(k==2)=false:=by simpa using h2
 have b4:(k==4)=false:=by simpa using h4
 go_enter Tryz.func99,Tryz.ntmps99
 go_wp2_with fail
 exact bodyPost_ret (v:=.agg #[.int .i64 k,.int .i64 u,.string .empty,.slice none 0 0]) (by simp[results,Tryz.results99,go_sem];rfl) rfl ⟨rfl,by go_grown⟩
theorem Gs (base:Nat) (hp:HLoc) (room:Int) (ws:List Wd) (nm:List ByteArray) (M:Nat->Prop) (i:Nat) (s:ByteArray) (w:World) (h:Hid (HpAt base hp room ws nm M w)) (hL:nm.length<=100000) (hi:Hid (nm[i]? =some s)) (hsz:s.size<=2048):
    Calls Tryz.prog 99 #[.pointer (some ⟨hp.b,hp.o,none⟩),.agg #[.int .i64 2,.int .i64 i]] w fun e w'=>e=.returned (.agg #[.int .i64 2,.int .i64 0,.string s,.slice none 0 0])/\Below w.heap.size w w':=by
 go_enter Tryz.func99,Tryz.ntmps99
 go_wp2_with fail
 generalize hwA:(w.alloc (Obj.cells #[Value.int IntKind.i64 2,Value.int IntKind.i64 i] 119)).alloc (Obj.cells #[.int .i64 0,.int .i64 0,.string ⟨#[]⟩,.slice none 0 0] 30)=wA
 have HA:Hid (Below w.heap.size w wA.drew/\wA.drew.heap.size=w.heap.size+2):=by
  subst hwA
  exact⟨(((Below.refl _ _).alloc (Nat.le_refl _) _).alloc (by simp) _).drew,by simp[World.drew]⟩
 have e1:wA.cell? ⟨w.heap.size,1,none⟩=some (.int .i64 i):=by subst hwA;simp[go_sem]
 have HR:Hid (BoxZ (w.heap.size+1) wA.drew):=by
  subst hwA
  have:=heap_alloc_new (w.alloc (Obj.cells #[Value.int IntKind.i64 2,Value.int IntKind.i64 i] 119)) (Obj.cells #[.int .i64 0,.int .i64 0,.string ⟨#[]⟩,.slice none 0 0] 30)
  have es:∀o,(w.alloc o).heap.size=w.heap.size+1:=fun o=>by simp
  rw[es]at this
  exact this
 have HC:Hid (Calls Tryz.prog 118 #[.pointer (some ⟨hp.b,hp.o+2,none⟩),.int .i64 i] wA.drew fun e w'=>e=.returned (.string s)/\Below wA.drew.heap.size wA.drew w'):=by
  obtain⟨tv,lv,mv,h1,h2,h3,_⟩:=h.out.later HA.out.1
  exact DK base hp room tv lv mv nm i s wA.drew h1 h3.1 hi hL hsz
 clear hwA
 go_region_held3 (fun w'=>w'.cell? ⟨w.heap.size,1,none⟩=some (.int .i64 i)) (go_keep) ((go_at_call 118;refine HC.out.mono ?_;rintro e w2 ⟨rfl,hb2⟩;have HB2:=hide hb2;have hcc:=fun o=>af hb2 w.heap.size o (by have:=HA.out.2;omega);have HBX:=hide (HR.out.kept (hb2.block _ (by have:=HA.out.2;omega)));obtain⟨⟨q0,q1,q2,q3⟩,f0⟩:=HBX.out.cells;clear hb2))
 have HF:=hide (zb HA.out.1 HB2.out (.int .i64 2) (.int .i64 0) (.string s) (.slice none 0 0))
 go_wp2_with fail
 exact bodyPost_ret (v:=.agg #[.int .i64 2,.int .i64 0,.string s,.slice none 0 0]) (by simp[results,Tryz.results99,go_sem,q0,q1,q2,q3]) rfl ⟨rfl,HF.out⟩
theorem FB (g o j:Nat):(⟨g,o,none⟩:Addr).add j=⟨g,o+j,none⟩:=by
 unfold Addr.add
 by_cases h:j=0<;>simp[h]
theorem AL {w:World} {vs:List Wd} {g o:Nat} (h:dO w vs (some ⟨g,o,none⟩)) (hg:g<w.heap.size):dG w vs (some ⟨g,o,none⟩):=by
 rcases h with h|⟨ad,e,hc⟩
 ·exact Or.inl h
 ·injection e with e
  subst e
  refine Or.inr ⟨g,o,rfl,hg,fun i v hv=>⟨?_, ?_⟩⟩
  ·have:=hc (i*2+0) (.int .i64 v.1) (by rw[gJ vs i v hv 0 (by omega)];rfl)
   rw[FB]at this
   exact this
  ·have:=hc (i*2+1) (.int .i64 v.2) (by rw[gJ vs i v hv 1 (by omega)];rfl)
   rw[FB]at this
   exact this
theorem L6 (n:Nat) (ih:QL n) (base:Nat) (hp:HLoc) (room:Int) (ws:List Wd) (nm:List ByteArray) (M:Nat->Prop) (k len:Nat) (p:List (Tm n)) (hpl:Hid (p.length=len)) (w:World) (h:Hid (HpAt base hp room ws nm M w)) (hlen:len<=8) (hw:Hid (ws.length<=100000)) (hn:Hid (nm.length<=100000))
    (hk:Hid (ws[k]? =some (0,(len:Int)))) (hkl:Hid (k+1+len<=ws.length)) (hst:Hid (∀(i:Nat) (y:Tm n),p[i]? =some y->∃u,ws[k+1+i]? =some u/\Stands ws nm n y u)) (hrp:Hid (∀y∈p,ai ⟨n,y⟩)):
    Calls Tryz.prog 99 #[.pointer (some ⟨hp.b,hp.o,none⟩),.agg #[.int .i64 4,.int .i64 k]] w fun e w'=>∃a' c' l,e=.returned (.agg #[.int .i64 4,.int .i64 0,.string .empty,.slice a' len c'])/\Hid (CpRow n p w w' a' c' l):=by
 go_enter Tryz.func99,Tryz.ntmps99
 go_wp2_with fail
 generalize hwA:(w.alloc (Obj.cells #[Value.int IntKind.i64 4,Value.int IntKind.i64 k] 119)).alloc (Obj.cells #[.int .i64 0,.int .i64 0,.string ⟨#[]⟩,.slice none 0 0] 30)=wA
 have HA:Hid (Below w.heap.size w wA.drew/\wA.drew.heap.size=w.heap.size+2):=by
  subst hwA
  exact⟨(((Below.refl _ _).alloc (Nat.le_refl _) _).alloc (by simp) _).drew,by simp[World.drew]⟩
 have e1:wA.cell? ⟨w.heap.size,1,none⟩=some (.int .i64 k):=by subst hwA;simp[go_sem]
 have HR:Hid (BoxZ (w.heap.size+1) wA.drew):=by
  subst hwA
  have:=heap_alloc_new (w.alloc (Obj.cells #[Value.int IntKind.i64 4,Value.int IntKind.i64 k] 119)) (Obj.cells #[.int .i64 0,.int .i64 0,.string ⟨#[]⟩,.slice none 0 0] 30)
  have es:∀o,(w.alloc o).heap.size=w.heap.size+1:=fun o=>by simp
  rw[es]at this
  exact this
 have HH:=hide (h.out.later HA.out.1)
 obtain⟨g,L,tc,c1,HCP⟩:∃g L tc,wA.cell? ⟨hp.b,hp.o+1,none⟩=some (.slice (some ⟨g,0,none⟩) L tc)/\Hid (hp.b<w.heap.size/\Calls Tryz.prog 120 #[.slice (some ⟨g,0,none⟩) L tc,.int .i64 k] wA.drew fun e w'=>∃o pc,e=.returned (.slice (some ⟨g,o,none⟩) len pc)/\w'=wA.drew/\Hid (dG wA.drew ((ws.drop (k+1)).take len) (some ⟨g,o,none⟩))):=by
  obtain⟨tv,lv,mv,h1,h2,h3,h4,_⟩:=HH.out
  obtain⟨⟨c0,c1,c2,c3⟩,hf⟩:=h1.cells
  have hkl':=hkl.out
  obtain⟨g,tc,rfl,_,_⟩:=h2.form (by omega)
  refine⟨g,_,tc,c1,h4.2, ?_⟩
  refine(xV base g ws.length tc k len ws wA.drew hw.out h2 hk hkl').mono ?_
  rintro e w' ⟨rfl,pa,pc,rfl,_,hwd,o,rfl⟩
  exact⟨o,pc,rfl,rfl,AL hwd (h2.lt g rfl).2⟩
 have HCT:Hid (∀o pc,dG wA.drew ((ws.drop (k+1)).take len) (some ⟨g,o,none⟩)->Calls Tryz.prog 119 #[.pointer (some ⟨hp.b,hp.o,none⟩),.slice (some ⟨g,o,none⟩) len pc] wA.drew fun e w'=>∃a' c' l,e=.returned (.agg #[.int .i64 4,.int .i64 0,.string .empty,.slice a' len c'])/\Hid (CpRow n p wA.drew w' a' c' l)):=by
  intro o pc hin
  refine Aa n ih base hp room ws nm _ (some ⟨g,o,none⟩) len pc p ((ws.drop (k+1)).take len) hpl ?_ wA.drew HH hlen hw hn hin ?_ hrp
  ·have:=hkl.out
   unfold Hid
   rw[List.length_take,List.length_drop]
   omega
  ·intro i y v hy hv
   obtain⟨u,hu,hs⟩:=hst.out i y hy
   have hi:i<len:=by have:=(List.getElem?_eq_some_iff.1 hy).1;have:=hpl.out;omega
   rw[List.getElem?_take_of_lt hi,List.getElem?_drop,hu]at hv
   obtain rfl:=Option.some.inj hv
   exact hs
 clear hwA ih hst hrp h HH hk hkl hw hn
 have hhp:hp.b<w.heap.size:=HCP.out.1
 have hne:w.heap.size+1≠hp.b:=by omega
 have HK:Hid (∀(w2:World) (v0 v1 v2 v3:Value),(w2.cell? ⟨w.heap.size,1,none⟩=some (.int .i64 k)/\w2.cell? ⟨hp.b,hp.o+1,none⟩=some (.slice (some ⟨g,0,none⟩) L tc))->((((w2.setCell ⟨w.heap.size+1,0,none⟩ v0).setCell ⟨w.heap.size+1,1,none⟩ v1).setCell ⟨w.heap.size+1,2,none⟩ v2).setCell ⟨w.heap.size+1,3,none⟩ v3).cell? ⟨w.heap.size,1,none⟩=some (.int .i64 k)/\((((w2.setCell ⟨w.heap.size+1,0,none⟩ v0).setCell ⟨w.heap.size+1,1,none⟩ v1).setCell ⟨w.heap.size+1,2,none⟩ v2).setCell ⟨w.heap.size+1,3,none⟩ v3).cell? ⟨hp.b,hp.o+1,none⟩=some (.slice (some ⟨g,0,none⟩) L tc)):=by
  intro w2 v0 v1 v2 v3 hh
  exact⟨(aK (aA (o:=0) (w:=w2) (show w.heap.size≠w.heap.size+1 by omega) v0 v1 v2 v3) 1).trans hh.1,(aK (aA (o:=0) (w:=w2) (show hp.b≠w.heap.size+1 by omega) v0 v1 v2 v3) (hp.o+1)).trans hh.2⟩
 go_region_held3 (fun w'=>w'.cell? ⟨w.heap.size,1,none⟩=some (.int .i64 k)/\w'.cell? ⟨hp.b,hp.o+1,none⟩=some (.slice (some ⟨g,0,none⟩) L tc)) (first|(go_keep;done)|exact HK.out _ _ _ _ _ hcp) ((first
  | (go_at_call 120;refine HCP.out.2.mono ?_;rintro e w2 ⟨o,pc,rfl,rfl,HW⟩)
  | (go_at_call 119;refine(HCT.out _ _ HW.out).mono ?_;rintro e w2 ⟨a',c',l,rfl,HCR⟩;have hcc:=fun b o (hb:b<w.heap.size+1)=>af HCR.out.1 b o (by have:=HA.out.2;omega);have hcp:w2.cell? ⟨w.heap.size,1,none⟩=some (.int .i64 k)/\w2.cell? ⟨hp.b,hp.o+1,none⟩=some (.slice (some ⟨g,0,none⟩) L tc):=⟨(hcc w.heap.size 1 (by omega)).trans e1,(hcc hp.b (hp.o+1) (by omega)).trans c1⟩;have HBX:=hide (HR.out.kept (HCR.out.1.block _ (by have:=HA.out.2;omega)));obtain⟨⟨q0,q1,q2,q3⟩,f0⟩:=HBX.out.cells)))
 have HF:=hide (HCR.out.box HA.out.1 (by have:=HA.out.2;omega) (.int .i64 4) (.int .i64 0) (.string .empty) (.slice a' len c'))
 go_wp2_with fail
 exact bodyPost_ret (v:=.agg #[.int .i64 4,.int .i64 0,.string .empty,.slice a' len c']) (by simp[results,Tryz.results99,go_sem,q0,q1,q2,q3]) rfl ⟨a',c',l,rfl,HF.out⟩
theorem uM (x:Nd) (h:good x=true):bR x.1.1/\bR x.1.2.1:=by
 have hk:=jr x h
 unfold good kr at h
 unfold bR
 rcases hk with g|g|g|g|g|⟨g,g0⟩
 all_goals (rw[g]at h ⊢;simp at h;refine⟨by omega,by omega⟩)
theorem Lx (n:Nat):QL n:=by
 induction n with
 | zero=>intro x v base hp room ws nm M w _ _ _ hs;exact hs.elim
 | succ n ih=>
  intro x v base hp room ws nm M w h hw hn hs hr
  have hg:=hr (aL n x) (by simp[nodes,aL])
  have hlen:x.2.2.length<=8:=ky (aL n x) hg
  have hname:x.1.2.2.size<=2048:=by have:=rF (aL n x) hg;simp only[aL]at this;omega
  obtain⟨s2,s4,s0⟩:=hs
  have gp:=dD (aL n x) hg
  have in0:∀(w':World) (k u:Int) (s:ByteArray),bR k->bR u->s.size<=2048->In w'.heap.size w' (n+1) ((k,u,s),(none,0),[]):=fun w' k u s h1 h2 h3=>⟨⟨h1,h2,by unfold maxLen;show s.size<=_;omega,Nat.le_refl _,Nat.zero_le _⟩,Or.inl rfl⟩
  by_cases h2:x.1.1=2
  ·obtain⟨i,rfl,hi⟩:=s2 h2
   have hx0:x.2.2=[]:=List.eq_nil_of_length_eq_zero (gp.2.2.2.2 (by show x.1.1≠4;omega))
   refine(Gs base hp room ws nm M i x.1.2.2 w h hn hi hname).mono ?_
   rintro e w' ⟨rfl,hb⟩
   refine⟨((2,0,x.1.2.2),(none,0),[]),rfl,hb,in0 w' 2 0 _ (by unfold bR;omega) (by unfold bR;omega) hname,Or.inl rfl, ?_⟩
   have h20:x.1.2.1=0:=gp.2.1 h2
   simp[same,h2,h20,hx0,ah]
  ·by_cases h4:x.1.1=4
   ·obtain⟨k,rfl,hk,hkl,hst⟩:=s4 h4
    refine(L6 n ih base hp room ws nm M k x.2.2.length x.2.2 rfl w h hlen hw hn hk hkl hst (fun y hy=>aH n x y hr hy)).mono ?_
    rintro e w' ⟨a',c',l,rfl,H⟩
    obtain⟨k1,k2,k3,k4,k5,k6⟩:=H.out
    have h40:x.1.2.1=0:=gp.2.2.1 h4
    have hnm:x.1.2.2.toList=[]:=gp.1 h2
    refine⟨((4,0,.empty),(a',c'),l),by rw[<-k2];rfl,k1,⟨⟨by unfold bR;show (-9223372036854775808:Int)<=4/\(4:Int)<=9223372036854775807;omega,by unfold bR;show (-9223372036854775808:Int)<=0/\(0:Int)<=9223372036854775807;omega,by unfold maxLen;show (0:Nat)<=_;omega,k3,k4⟩, ?_⟩, ?_, ?_⟩
    ·rcases k6 with k6|⟨b,o,e,hb1,hb2,k6⟩
     ·exact Or.inl k6
     ·exact Or.inr ⟨b,o,e,hb2,fun i y hy=>⟨(k6 i y hy).1,(k6 i y hy).2.1⟩⟩
    ·rcases k6 with k6|⟨b,o,e,hb1,hb2,k6⟩
     ·exact Or.inl k6
     ·exact Or.inr ⟨b,o,e,hb1.1,fun i y hy=>(k6 i y hy).2.2⟩
    ·simp only[same]
     rw[h4,h40,hnm,k5]
     simp
   ·have hv:=s0 h2 h4
    subst hv
    have hx0:x.2.2=[]:=List.eq_nil_of_length_eq_zero (gp.2.2.2.2 h4)
    have hnm:x.1.2.2.toList=[]:=gp.1 h2
    refine(Iw hp x.1.1 x.1.2.1 w h2 h4).mono ?_
    rintro e w' ⟨rfl,hb⟩
    refine⟨((x.1.1,x.1.2.1,.empty),(none,0),[]),rfl,hb,in0 w' _ _ _ ?_ ?_ (by show (0:Nat)<=_;omega),Or.inl rfl, ?_⟩
    ·exact(uM _ hg).1
    ·exact(uM _ hg).2
    ·simp only[same]
     rw[hnm,hx0]
     simp[ah]
def bu (ws:List Wd) (nm:List ByteArray) (v:Wd):Bool:=
 if v.1=1 then kr v.2 (-1099511627776) 1099511627776 else if v.1=3 then kr v.2 1 99 else if v.1=2 then hasB nm.length v.2 else if v.1=4 then eF ws v.2 else false
def leaf (k u:Int):Tm 1:=((k,u,.empty),(none,0),[])
theorem Mr (k u:Int) (hk:k=1∨k=3):aQ 1 (leaf k u)=if good (aL 0 (leaf k u))then 0 else 5:=by
 rcases hk with rfl|rfl<;>simp[aQ,leaf,nodes,mF,AZ,sz,deeper,aL]<;>rfl
theorem Hr (ws:List Wd) (nm:List ByteArray) (k u:Int) (hk:k=1∨k=3):good (aL 0 (leaf k u))=bu ws nm (k,u):=by
 rcases hk with rfl|rfl<;>simp[good,leaf,aL,bu]
theorem vz (hp:HLoc) (ws:List Wd) (nm:List ByteArray) (k u:Int) (w:World) (hk:k=1∨k=3) (hu:bR u):
    Calls Tryz.prog 98 #[.pointer (some ⟨hp.b,hp.o,none⟩),.agg #[.int .i64 k,.int .i64 u]] w fun e w'=>e=.returned (.bool (bu ws nm (k,u)))/\Below w.heap.size w w':=by
 have HC:Hid (∀w1,Calls Tryz.prog 42 #[.agg #[.int .i64 k,.int .i64 u,.string .empty,.slice none 0 0]] w1 fun e w'=>e=.returned (.int .i64 (if bu ws nm (k,u)then 0 else 5))/\Below w1.heap.size w1 w'):=by
  intro w1
  have h:=dh 1 (leaf k u) w1.heap.size w1 ⟨⟨by rcases hk with rfl|rfl<;>simp[leaf,bR],hu,by simp[leaf,maxLen],Nat.le_refl _,Nat.zero_le _⟩,Or.inl rfl⟩ (Nat.le_refl _) (by simp[nodes,leaf])
  rw[Mr k u hk,Hr ws nm k u hk]at h
  exact h
 generalize bu ws nm (k,u)=sb at*
 cases sb
 all_goals
  simp only[if_true,Bool.false_eq_true,if_false]at HC
  rcases hk with rfl|rfl
  all_goals
   go_enter Tryz.func98,Tryz.ntmps98
   go_wp2_with fail
   refine(HC.out _).mono ?_
   rintro e w2 ⟨rfl,hb⟩
   have HB:=hide hb
   clear hb
   go_wp2_with fail
   go_ret
   exact⟨rfl,((Below.refl _ _).alloc (Nat.le_refl _) _).trans (HB.out.mono (by simp))⟩
theorem CO (base:Nat) (hp:HLoc) (room:Int) (ws:List Wd) (nm:List ByteArray) (M:Nat->Prop) (u:Int) (w:World) (h:Hid (HpAt base hp room ws nm M w)):
    Calls Tryz.prog 98 #[.pointer (some ⟨hp.b,hp.o,none⟩),.agg #[.int .i64 2,.int .i64 u]] w fun e w'=>e=.returned (.bool (hasB nm.length u))/\Below w.heap.size w w':=by
 have HC:Hid (∀wA,Below w.heap.size w wA->Calls Tryz.prog 116 #[.pointer (some ⟨hp.b,hp.o+2,none⟩),.int .i64 u] wA fun e w'=>e=.returned (.bool (hasB nm.length u))/\w'=wA):=by
  intro wA hA
  obtain⟨tv,lv,mv,h1,h2,h3,_⟩:=h.out.later hA
  obtain⟨la,lc,rfl⟩:∃la lc,lv=.slice la nm.length lc:=by
   rcases h3.1.2 with⟨e,e0⟩|⟨g,c,cur,e,_⟩
   ·exact⟨none,0,by rw[e,e0]⟩
   ·exact⟨_,c,e⟩
  exact Np hp room tv la nm.length lc mv u wA h1
 clear h
 generalize hasB nm.length u=bb at*
 go_enter Tryz.func98,Tryz.ntmps98
 go_wp2_with fail
 generalize hwA:w.alloc (Obj.cells #[Value.int IntKind.i64 2,Value.int IntKind.i64 u] 119)=wA
 have HA:Hid (Below w.heap.size w wA.drew):=by subst hwA;exact((Below.refl _ _).alloc (Nat.le_refl _) _).drew
 have e1:wA.cell? ⟨w.heap.size,1,none⟩=some (.int .i64 u):=by subst hwA;simp[go_sem]
 clear hwA
 go_region_held3 (fun w'=>w'.cell? ⟨w.heap.size,1,none⟩=some (.int .i64 u)) (go_keep) ((go_at_call 116;refine(HC.out _ HA.out).mono ?_;rintro e w2 ⟨rfl,rfl⟩))
 go_wp2_with fail
 go_ret
 exact⟨rfl,HA.out⟩
theorem EB (base:Nat) (hp:HLoc) (room:Int) (ws:List Wd) (nm:List ByteArray) (M:Nat->Prop) (u:Int) (w:World) (h:Hid (HpAt base hp room ws nm M w)) (hw:ws.length<=100000):
    Calls Tryz.prog 98 #[.pointer (some ⟨hp.b,hp.o,none⟩),.agg #[.int .i64 4,.int .i64 u]] w fun e w'=>e=.returned (.bool (eF ws u))/\Below w.heap.size w w':=by
 obtain⟨ta,tc,hhp,c1,HC⟩:∃ta tc,hp.b<w.heap.size/\w.cell? ⟨hp.b,hp.o+1,none⟩=some (.slice ta ws.length tc)/\Hid (∀wA,Below w.heap.size w wA->Calls Tryz.prog 117 #[.slice ta ws.length tc,.int .i64 u] wA fun e w'=>e=.returned (.bool (eF ws u))/\w'=wA):=by
  obtain⟨tv,lv,mv,h1,h2,h3,_⟩:=h.out
  obtain⟨ta,tc,rfl⟩:∃ta tc,tv=.slice ta ws.length tc:=by
   rcases h2.2 with⟨e,e0⟩|⟨g,c,cur,e,_⟩
   ·exact⟨none,0,by rw[e,e0]⟩
   ·exact⟨_,c,e⟩
  exact⟨ta,tc,h1.lt,h1.cells.1.2.1,fun wA hA=>Em base ta ws.length tc ws u wA rfl hw (own_below h2 hA)⟩
 clear h
 generalize eF ws u=bb at*
 generalize ws.length=L at*
 go_enter Tryz.func98,Tryz.ntmps98
 go_wp2_with fail
 generalize hwA:w.alloc (Obj.cells #[Value.int IntKind.i64 4,Value.int IntKind.i64 u] 119)=wA
 have HA:Hid (Below w.heap.size w wA.drew):=by subst hwA;exact((Below.refl _ _).alloc (Nat.le_refl _) _).drew
 have e1:wA.cell? ⟨w.heap.size,1,none⟩=some (.int .i64 u):=by subst hwA;simp[go_sem]
 replace c1:wA.cell? ⟨hp.b,hp.o+1,none⟩=some (.slice ta L tc):=(af HA.out hp.b (hp.o+1) hhp).trans c1
 clear hwA
 go_region_held3 (fun w'=>w'.cell? ⟨w.heap.size,1,none⟩=some (.int .i64 u)/\w'.cell? ⟨hp.b,hp.o+1,none⟩=some (.slice ta L tc)) (go_keep) ((go_at_call 117;refine(HC.out _ HA.out).mono ?_;rintro e w2 ⟨rfl,rfl⟩))
 go_wp2_with fail
 go_ret
 exact⟨rfl,HA.out⟩
theorem Cv (hp:HLoc) (k u:Int) (w:World) (h1:¬k=1) (h2:¬k=2) (h3:¬k=3) (h4:¬k=4):
    Calls Tryz.prog 98 #[.pointer (some ⟨hp.b,hp.o,none⟩),.agg #[.int .i64 k,.int .i64 u]] w fun e w'=>e=.returned (.bool false)/\Below w.heap.size w w':=by
 have b1:(k==1)=false:=by simpa using h1
 have b2:(k==2)=false:=by simpa using h2
 have b3:(k==3)=false:=by simpa using h3
 have b4:(k==4)=false:=by simpa using h4
 go_enter Tryz.func98,Tryz.ntmps98
 go_wp2_with fail
 go_ret
 exact⟨rfl,by go_grown⟩
theorem uH (base:Nat) (hp:HLoc) (room:Int) (ws:List Wd) (nm:List ByteArray) (M:Nat->Prop) (v:Wd) (w:World) (h:HpAt base hp room ws nm M w) (hw:ws.length<=100000) (hv:bR v.2):
    Calls Tryz.prog 98 #[.pointer (some ⟨hp.b,hp.o,none⟩),Jv v] w fun e w'=>e=.returned (.bool (bu ws nm v))/\Below w.heap.size w w':=by
 obtain⟨k,u⟩:=v
 by_cases h1:k=1
 ·exact vz hp ws nm k u w (Or.inl h1) hv
 ·by_cases h3:k=3
  ·exact vz hp ws nm k u w (Or.inr h3) hv
  ·by_cases h2:k=2
   ·subst h2
    have e:bu ws nm (2,u)=hasB nm.length u:=by simp[bu]
    rw[e]
    exact CO base hp room ws nm M u w h
   ·by_cases h4:k=4
    ·subst h4
     have e:bu ws nm (4,u)=eF ws u:=by simp[bu]
     rw[e]
     exact EB base hp room ws nm M u w h hw
    ·have e:bu ws nm (k,u)=false:=by simp[bu,h1,h2,h3,h4]
     rw[e]
     exact Cv hp k u w h1 h2 h3 h4
theorem ze (base:Nat) (hp:HLoc) (room:Int) (ws:List Wd) (nm:List ByteArray) (M:Nat->Prop) (vs:List Wd) (a:Option Addr) (len pc:Nat) (w:World) (h:Hid (HpAt base hp room ws nm M w)) (hw:ws.length<=100000) (hvl:Hid (vs.length=len)) (hlen:len<=100000) (hin:Hid (dG w vs a)) (hi:Hid (∀v∈vs,bR v.2)):
    Calls Tryz.prog 138 #[.pointer (some ⟨hp.b,hp.o,none⟩),.slice a len pc] w fun e w'=>e=.returned (.bool (vs.all (bu ws nm)))/\Below w.heap.size w w':=by
 go_enter Tryz.func138,Tryz.ntmps138
 go_wp2_with fail
 go_loopw [9] (fun i wr=>∃k:Nat,k<=len/\i=.int .i64 k/\Hid (Below w.heap.size w wr/\(vs.take k).all (bu ws nm)=true)) (fun i _=>len-(intOf i).toNat)
 case atStart=>exact⟨0,by omega,rfl,Below.refl _ _,by simp⟩
 case round=>
  obtain⟨k,hk,rfl,HR⟩:=hrel
  by_cases hlt:k<len
  ·obtain⟨v,hv⟩:∃v,vs[k]? =some v:=⟨vs[k]'(by rw[hvl.out];exact hlt),List.getElem?_eq_getElem _⟩
   obtain⟨b,o,rfl,hb,hvs⟩:∃b o,a=some ⟨b,o,none⟩/\b<w.heap.size/\∀(i:Nat) (v:Wd),vs[i]? =some v->w.cell? ⟨b,o+i*2,none⟩=some (.int .i64 v.1)/\w.cell? ⟨b,o+i*2+1,none⟩=some (.int .i64 v.2):=by
    rcases hin.out with e|e
    ·rw[e]at hv;simp at hv
    ·exact e
   obtain⟨v0,v1⟩:=hvs k v hv
   replace v0:=(af HR.out.1 b (o+k*2) hb).trans v0
   replace v1:=(af HR.out.1 b (o+k*2+1) hb).trans v1
   have HC:Hid (∀(w1:World),Below wr.heap.size wr w1->Calls Tryz.prog 98 #[.pointer (some ⟨hp.b,hp.o,none⟩),.agg #[.int .i64 v.1,.int .i64 v.2]] w1 fun e w'=>e=.returned (.bool (bu ws nm v))/\Below w1.heap.size w1 w'):=
    fun w1 h1=>uH base hp room ws nm _ v w1 (h.out.later (HR.out.1.trans (h1.mono HR.out.1.size))) hw (hi.out v (List.mem_of_getElem? hv))
   have HN:Hid ((bu ws nm v=true->(vs.take (k+1)).all (bu ws nm)=true)/\(bu ws nm v=false->vs.all (bu ws nm)=false)):=by
    refine⟨fun e=> ?_,fun e=> ?_⟩
    ·rw[List.take_add_one,hv,List.all_append,HR.out.2]
     simp[e]
    ·cases ha:vs.all (bu ws nm)
     ·rfl
     ·rw[List.all_eq_true]at ha
      rw[ha v (List.mem_of_getElem? hv)]at e
      exact e
   have HBr:Hid (Below w.heap.size w wr):=HR.out.1
   clear hv hvs hin h hi HR
   have hk1:(0:Int)<=(k:Int):=by omega
   have hk2:(k:Int)<(len:Int):=by omega
   have hws:=HBr.out.size
   have hpw:b<wr.heap.size:=by omega
   clear hws
   cases hsb:bu ws nm v
   ·rw[hsb]at HC
    replace HN:=hide (HN.out.2 hsb)
    clear hsb
    go_wp2_with fail
    refine(HC.out _ ((Below.refl _ _).alloc (Nat.le_refl _) _)).mono ?_
    rintro e w1 ⟨rfl,hb1⟩
    have HB1:Hid (Below w.heap.size w w1):=HBr.out.trans ((((Below.refl _ _).alloc (Nat.le_refl _) _).trans (hb1.mono (by simp))).mono HBr.out.size)
    clear hb1 v0 v1 HC
    go_wp2_with fail
    go_ret
    exact⟨dH HN.out.symm,HB1.out⟩
   ·rw[hsb]at HC
    replace HN:=hide (HN.out.1 hsb)
    clear hsb
    go_wp2_with fail
    refine(HC.out _ ((Below.refl _ _).alloc (Nat.le_refl _) _)).mono ?_
    rintro e w1 ⟨rfl,hb1⟩
    have HB1:Hid (Below w.heap.size w w1):=HBr.out.trans ((((Below.refl _ _).alloc (Nat.le_refl _) _).trans (hb1.mono (by simp))).mono HBr.out.size)
    clear hb1 v0 v1 HC
    go_wp2_with fail
    go_roundw
    case rel=>exact⟨k+1,by omega,by go_num,HB1.out,HN.out⟩
    case measure=>simp[intOf];omega
  ·have HD:Hid (vs.all (bu ws nm)=true):=by
     have h2:=HR.out.2
     rw[List.take_of_length_le (by have:=hvl.out;omega)]at h2
     exact h2
   have HB1:Hid (Below w.heap.size w wr):=HR.out.1
   clear HR
   go_wp2_with fail
   go_ret
   exact⟨dH HD.out.symm,HB1.out⟩
def PutBox (q:Nat) (k u:Int) (s:ByteArray) (a:Option Addr) (l c:Nat) (w:World):Prop:=
 w.heap[q]? =some (.cells #[.int .i64 k,.int .i64 u,.string s,.slice a l c] 30)/\w.heap[q+1]? =some (.cells #[.int .i64 0,.int .i64 0] 119)
theorem uu (w:World) (k u:Int) (s:ByteArray) (a:Option Addr) (l c:Nat):PutBox w.heap.size k u s a l c ((w.alloc (Obj.cells #[.int .i64 k,.int .i64 u,.string s,.slice a l c] 30)).alloc (Obj.cells #[.int .i64 0,.int .i64 0] 119)):=by
 refine⟨((World.grownBy_alloc (w.alloc (Obj.cells #[.int .i64 k,.int .i64 u,.string s,.slice a l c] 30)) (Obj.cells #[.int .i64 0,.int .i64 0] 119) none).block _ (by simp) (by simp)).trans (heap_alloc_new w _), ?_⟩
 have:=heap_alloc_new (w.alloc (Obj.cells #[.int .i64 k,.int .i64 u,.string s,.slice a l c] 30)) (Obj.cells #[.int .i64 0,.int .i64 0] 119)
 have es:∀o,(w.alloc o).heap.size=w.heap.size+1:=fun o=>by simp
 rw[es]at this
 exact this
theorem PutBox.facts {q:Nat} {k u:Int} {s:ByteArray} {a:Option Addr} {l c:Nat} {w:World} (h:PutBox q k u s a l c w):
    (w.cell? ⟨q,0,none⟩=some (.int .i64 k)/\w.cell? ⟨q,1,none⟩=some (.int .i64 u)/\w.cell? ⟨q,2,none⟩=some (.string s)/\w.cell? ⟨q,3,none⟩=some (.slice a l c))/\(w.cell? ⟨q+1,0,none⟩=some (.int .i64 0)/\w.cell? ⟨q+1,1,none⟩=some (.int .i64 0))/\w.frozen? ⟨q+1,0,none⟩=false/\w.frozen? ⟨q+1,1,none⟩=false:=by
 obtain⟨h1,h2⟩:=h
 refine⟨⟨?_, ?_, ?_, ?_⟩,⟨?_, ?_⟩, ?_, ?_⟩
 all_goals simp[World.cell?,World.frozen?,h1,h2]
theorem ek {k u:Int} {s:ByteArray} {a:Option Addr} {l c:Nat} {w w1 w2:World} (h:Below w.heap.size w w1/\w.heap.size+2<=w1.heap.size/\PutBox w.heap.size k u s a l c w1) (hb:Below w1.heap.size w1 w2):Below w.heap.size w w2/\w.heap.size+2<=w2.heap.size/\PutBox w.heap.size k u s a l c w2:=by
 obtain⟨h1,h2,h3⟩:=h
 have:=hb.size
 exact⟨h1.trans (hb.mono h1.size),by omega,(hb.block _ (by omega)).trans h3.1,(hb.block _ (by omega)).trans h3.2⟩
theorem oH {k u:Int} {s:ByteArray} {a:Option Addr} {l c:Nat} {w w1:World} (h:Below w.heap.size w w1/\w.heap.size+2<=w1.heap.size/\PutBox w.heap.size k u s a l c w1) (v0 v1:Value):Below w.heap.size w ((w1.setCell ⟨w.heap.size+1,0,none⟩ v0).setCell ⟨w.heap.size+1,1,none⟩ v1):=by
 obtain⟨h1,h2,h3⟩:=h
 have k1:=aI w1 (w.heap.size+1) 0 v0
 have k2:=aI (w1.setCell ⟨w.heap.size+1,0,none⟩ v0) (w.heap.size+1) 1 v1
 have k3:=(aD h1 (fun b=>b=w.heap.size+1)).trans (k1.trans k2 (fun b _ h=>h)) (fun b _ h=>h)
 exact⟨k3.os,k3.tape,k3.output,k3.size,fun b hb=>k3.block b hb (by omega)⟩
theorem Ph (hp:HLoc) (k u:Int) (s:ByteArray) (a:Option Addr) (l c:Nat) (w:World) (ce:Int) (hce:(ce !=0)=true)
    (HC:Hid (∀w1,Below w.heap.size w w1->Calls Tryz.prog 42 #[.agg #[.int .i64 k,.int .i64 u,.string s,.slice a l c]] w1 fun e w'=>e=.returned (.int .i64 ce)/\Below w1.heap.size w1 w')):
    Calls Tryz.prog 51 #[.pointer (some ⟨hp.b,hp.o,none⟩),.agg #[.int .i64 k,.int .i64 u,.string s,.slice a l c]] w fun e w'=>e=.returned (.tuple #[.agg #[.int .i64 0,.int .i64 0],.int .i64 ce])/\Below w.heap.size w w':=by
 go_enter Tryz.func51,Tryz.ntmps51
 go_wp2_with fail
 generalize hw0:(w.alloc (Obj.cells #[.int .i64 k,.int .i64 u,.string s,.slice a l c] 30)).alloc (Obj.cells #[.int .i64 0,.int .i64 0] 119)=w0
 have H0:Hid (Below w.heap.size w w0/\w.heap.size+2<=w0.heap.size/\PutBox w.heap.size k u s a l c w0):=by
  subst hw0
  exact⟨((Below.refl _ _).alloc (Nat.le_refl _) _).alloc (by simp) _,by simp,uu _ _ _ _ _ _ _⟩
 clear hw0
 refine(HC.out _ H0.out.1).mono ?_
 rintro e w1 ⟨rfl,hb⟩
 have H1:=hide (ek H0.out hb)
 obtain⟨⟨t0,t1,t2,t3⟩,⟨r0,r1⟩,f0,f1⟩:=H1.out.2.2.facts
 clear hb H0
 go_wp2_with fail
 exact bodyPost_ret (v:=.tuple #[.agg #[.int .i64 0,.int .i64 0],.int .i64 ce]) (by simp[results,Tryz.results51,go_sem,r0,r1]) rfl ⟨rfl,oH H1.out _ _⟩
theorem OP (hp:HLoc) (k u:Int) (s:ByteArray) (a:Option Addr) (l c:Nat) (w:World)
    (HC:Hid (∀w1,Below w.heap.size w w1->Calls Tryz.prog 42 #[.agg #[.int .i64 k,.int .i64 u,.string s,.slice a l c]] w1 fun e w'=>e=.returned (.int .i64 0)/\Below w1.heap.size w1 w'))
    (HL:Hid (∀w1,Below w.heap.size w w1->Calls Tryz.prog 43 #[.agg #[.int .i64 k,.int .i64 u,.string s,.slice a l c]] w1 fun e w'=>e=.returned (.bool false)/\Below w1.heap.size w1 w')):
    Calls Tryz.prog 51 #[.pointer (some ⟨hp.b,hp.o,none⟩),.agg #[.int .i64 k,.int .i64 u,.string s,.slice a l c]] w fun e w'=>e=.returned (.tuple #[.agg #[.int .i64 0,.int .i64 0],.int .i64 5])/\Below w.heap.size w w':=by
 go_enter Tryz.func51,Tryz.ntmps51
 go_wp2_with fail
 generalize hw0:(w.alloc (Obj.cells #[.int .i64 k,.int .i64 u,.string s,.slice a l c] 30)).alloc (Obj.cells #[.int .i64 0,.int .i64 0] 119)=w0
 have H0:Hid (Below w.heap.size w w0/\w.heap.size+2<=w0.heap.size/\PutBox w.heap.size k u s a l c w0):=by
  subst hw0
  exact⟨((Below.refl _ _).alloc (Nat.le_refl _) _).alloc (by simp) _,by simp,uu _ _ _ _ _ _ _⟩
 clear hw0
 refine(HC.out _ H0.out.1).mono ?_
 rintro e w1 ⟨rfl,hb⟩
 have H1:=hide (ek H0.out hb)
 obtain⟨⟨t0,t1,t2,t3⟩,⟨r0,r1⟩,f0,f1⟩:=H1.out.2.2.facts
 clear hb H0
 go_wp2_with fail
 clear t0 t1 t2 t3 r0 r1 f0 f1
 refine(HL.out _ H1.out.1).mono ?_
 rintro e w2 ⟨rfl,hb⟩
 have H2:=hide (ek H1.out hb)
 obtain⟨⟨t0,t1,t2,t3⟩,⟨r0,r1⟩,f0,f1⟩:=H2.out.2.2.facts
 clear hb H1
 go_wp2_with fail
 exact bodyPost_ret (v:=.tuple #[.agg #[.int .i64 0,.int .i64 0],.int .i64 5]) (by simp[results,Tryz.results51,go_sem,r0,r1]) rfl ⟨rfl,oH H2.out _ _⟩
theorem OQ (hp:HLoc) (k u:Int) (s:ByteArray) (a:Option Addr) (l c:Nat) (w:World) (z:Int)
    (HC:Hid (∀w1,Below w.heap.size w w1->Calls Tryz.prog 42 #[.agg #[.int .i64 k,.int .i64 u,.string s,.slice a l c]] w1 fun e w'=>e=.returned (.int .i64 0)/\Below w1.heap.size w1 w'))
    (HL:Hid (∀w1,Below w.heap.size w w1->Calls Tryz.prog 43 #[.agg #[.int .i64 k,.int .i64 u,.string s,.slice a l c]] w1 fun e w'=>e=.returned (.bool true)/\Below w1.heap.size w1 w'))
    (HS:Hid (∀w1,Below w.heap.size w w1->Calls Tryz.prog 67 #[.agg #[.int .i64 k,.int .i64 u,.string s,.slice a l c]] w1 fun e w'=>e=.returned (.int .i64 z)/\Below w1.heap.size w1 w'))
    (HF:Hid (∀w1,Below w.heap.size w w1->Calls Tryz.prog 77 #[.pointer (some ⟨hp.b,hp.o,none⟩),.int .i64 z] w1 fun e w'=>e=.returned (.bool false)/\Below w1.heap.size w1 w')):
    Calls Tryz.prog 51 #[.pointer (some ⟨hp.b,hp.o,none⟩),.agg #[.int .i64 k,.int .i64 u,.string s,.slice a l c]] w fun e w'=>e=.returned (.tuple #[.agg #[.int .i64 0,.int .i64 0],.int .i64 6])/\Below w.heap.size w w':=by
 go_enter Tryz.func51,Tryz.ntmps51
 go_wp2_with fail
 generalize hw0:(w.alloc (Obj.cells #[.int .i64 k,.int .i64 u,.string s,.slice a l c] 30)).alloc (Obj.cells #[.int .i64 0,.int .i64 0] 119)=w0
 have H0:Hid (Below w.heap.size w w0/\w.heap.size+2<=w0.heap.size/\PutBox w.heap.size k u s a l c w0):=by
  subst hw0
  exact⟨((Below.refl _ _).alloc (Nat.le_refl _) _).alloc (by simp) _,by simp,uu _ _ _ _ _ _ _⟩
 clear hw0
 refine(HC.out _ H0.out.1).mono ?_
 rintro e w1 ⟨rfl,hb⟩
 have H1:=hide (ek H0.out hb)
 obtain⟨⟨t0,t1,t2,t3⟩,⟨r0,r1⟩,f0,f1⟩:=H1.out.2.2.facts
 clear hb H0
 go_wp2_with fail
 clear t0 t1 t2 t3 r0 r1 f0 f1
 refine(HL.out _ H1.out.1).mono ?_
 rintro e w2 ⟨rfl,hb⟩
 have H2:=hide (ek H1.out hb)
 obtain⟨⟨t0,t1,t2,t3⟩,⟨r0,r1⟩,f0,f1⟩:=H2.out.2.2.facts
 clear hb H1
 go_wp2_with fail
 clear t0 t1 t2 t3 r0 r1 f0 f1
 refine(HS.out _ H2.out.1).mono ?_
 rintro e w3 ⟨rfl,hb⟩
 have H3:=hide (ek H2.out hb)
 obtain⟨⟨t0,t1,t2,t3⟩,⟨r0,r1⟩,f0,f1⟩:=H3.out.2.2.facts
 clear hb H2
 go_wp2_with fail
 clear t0 t1 t2 t3 r0 r1 f0 f1
 refine(HF.out _ H3.out.1).mono ?_
 rintro e w4 ⟨rfl,hb⟩
 have H4:=hide (ek H3.out hb)
 obtain⟨⟨t0,t1,t2,t3⟩,⟨r0,r1⟩,f0,f1⟩:=H4.out.2.2.facts
 clear hb H3
 go_wp2_with fail
 exact bodyPost_ret (v:=.tuple #[.agg #[.int .i64 0,.int .i64 0],.int .i64 6]) (by simp[results,Tryz.results51,go_sem,r0,r1]) rfl ⟨rfl,oH H4.out _ _⟩
theorem Pm (hp:HLoc) (k u:Int) (s:ByteArray) (a:Option Addr) (l c:Nat) (w:World) (z:Int) (V:Wd) (base:Nat) (room:Int) (ws:List Wd) (nm:List ByteArray) (M:Nat->Prop)
    (HC:Hid (∀w1,Below w.heap.size w w1->Calls Tryz.prog 42 #[.agg #[.int .i64 k,.int .i64 u,.string s,.slice a l c]] w1 fun e w'=>e=.returned (.int .i64 0)/\Below w1.heap.size w1 w'))
    (HL:Hid (∀w1,Below w.heap.size w w1->Calls Tryz.prog 43 #[.agg #[.int .i64 k,.int .i64 u,.string s,.slice a l c]] w1 fun e w'=>e=.returned (.bool true)/\Below w1.heap.size w1 w'))
    (HS:Hid (∀w1,Below w.heap.size w w1->Calls Tryz.prog 67 #[.agg #[.int .i64 k,.int .i64 u,.string s,.slice a l c]] w1 fun e w'=>e=.returned (.int .i64 z)/\Below w1.heap.size w1 w'))
    (HF:Hid (∀w1,Below w.heap.size w w1->Calls Tryz.prog 77 #[.pointer (some ⟨hp.b,hp.o,none⟩),.int .i64 z] w1 fun e w'=>e=.returned (.bool true)/\Below w1.heap.size w1 w'))
    (HY:Hid (∀w1,Below w.heap.size w w1->Calls Tryz.prog 78 #[.pointer (some ⟨hp.b,hp.o,none⟩),.agg #[.int .i64 k,.int .i64 u,.string s,.slice a l c]] w1 fun e w'=>e=.returned (.agg #[.int .i64 V.1,.int .i64 V.2])/\Hid (Laid base hp room ws nm (fun b=>M b/\b<w.heap.size) w1 w'))):
    Calls Tryz.prog 51 #[.pointer (some ⟨hp.b,hp.o,none⟩),.agg #[.int .i64 k,.int .i64 u,.string s,.slice a l c]] w fun e w'=>e=.returned (.tuple #[.agg #[.int .i64 V.1,.int .i64 V.2],.int .i64 0])/\Hid (Laid base hp room ws nm M w w'):=by
 go_enter Tryz.func51,Tryz.ntmps51
 go_wp2_with fail
 generalize hw0:(w.alloc (Obj.cells #[.int .i64 k,.int .i64 u,.string s,.slice a l c] 30)).alloc (Obj.cells #[.int .i64 0,.int .i64 0] 119)=w0
 have H0:Hid (Below w.heap.size w w0/\w.heap.size+2<=w0.heap.size/\PutBox w.heap.size k u s a l c w0):=by
  subst hw0
  exact⟨((Below.refl _ _).alloc (Nat.le_refl _) _).alloc (by simp) _,by simp,uu _ _ _ _ _ _ _⟩
 clear hw0
 refine(HC.out _ H0.out.1).mono ?_
 rintro e w1 ⟨rfl,hb⟩
 have H1:=hide (ek H0.out hb)
 obtain⟨⟨t0,t1,t2,t3⟩,⟨r0,r1⟩,f0,f1⟩:=H1.out.2.2.facts
 clear hb H0
 go_wp2_with fail
 clear t0 t1 t2 t3 r0 r1 f0 f1
 refine(HL.out _ H1.out.1).mono ?_
 rintro e w2 ⟨rfl,hb⟩
 have H2:=hide (ek H1.out hb)
 obtain⟨⟨t0,t1,t2,t3⟩,⟨r0,r1⟩,f0,f1⟩:=H2.out.2.2.facts
 clear hb H1
 go_wp2_with fail
 clear t0 t1 t2 t3 r0 r1 f0 f1
 refine(HS.out _ H2.out.1).mono ?_
 rintro e w3 ⟨rfl,hb⟩
 have H3:=hide (ek H2.out hb)
 obtain⟨⟨t0,t1,t2,t3⟩,⟨r0,r1⟩,f0,f1⟩:=H3.out.2.2.facts
 clear hb H2
 go_wp2_with fail
 clear t0 t1 t2 t3 r0 r1 f0 f1
 refine(HF.out _ H3.out.1).mono ?_
 rintro e w4 ⟨rfl,hb⟩
 have H4:=hide (ek H3.out hb)
 obtain⟨⟨t0,t1,t2,t3⟩,⟨r0,r1⟩,f0,f1⟩:=H4.out.2.2.facts
 clear hb H3
 go_wp2_with fail
 refine(HY.out _ H4.out.1).mono ?_
 rintro e w5 ⟨rfl,HLD⟩
 have hcc:=vQ HLD.out
 have d0:=(hcc (w.heap.size+1) (by omega) (by have:=H4.out.2.1;omega) 0).1.trans r0
 have d1:=(hcc (w.heap.size+1) (by omega) (by have:=H4.out.2.1;omega) 1).1.trans r1
 have g0:=(hcc (w.heap.size+1) (by omega) (by have:=H4.out.2.1;omega) 0).2.trans f0
 have g1:=(hcc (w.heap.size+1) (by omega) (by have:=H4.out.2.1;omega) 1).2.trans f1
 have HE:=hide (CE HLD.out H4.out.1 H4.out.2.1 (.int .i64 V.1) (.int .i64 V.2))
 clear hcc t0 t1 t2 t3 r0 r1 f0 f1 HLD
 go_wp2_with fail
 exact bodyPost_ret (v:=.tuple #[.agg #[.int .i64 V.1,.int .i64 V.2],.int .i64 0]) (by simp[results,Tryz.results51,go_sem,d0,d1]) rfl ⟨rfl,HE.out⟩
theorem uG:(n:Nat)->(x:Tm n)->ai ⟨n,x⟩->((nodes n x).length:Int)<=sz n x+1
 | 0,_,_=>by simp[nodes,sz]
 | n+1,x,h=>by
  have gx:=dD (aL n x) (h (aL n x) (by simp[nodes,aL]))
  by_cases h4:x.1.1=4
  ·have key:∀l:List (Tm n),(∀y∈l,ai ⟨n,y⟩)->((l.flatMap fun y=>nodes n y).length:Int)<=(l.map fun y=>1+sz n y).sum:=by
     intro l
     induction l with
     | nil=>intro _;simp
     | cons y l ih=>
      intro hl
      have h1:=uG n y (hl y (by simp))
      have h2:=ih (fun z hz=>hl z (by simp[hz]))
      simp only[List.flatMap_cons,List.length_append,List.map_cons,List.sum_cons]
      omega
   have k:=key x.2.2 (fun y hy=>aH n x y h hy)
   simp only[nodes,List.length_cons,sz,if_pos h4]
   omega
  ·have:x.2.2=[]:=List.eq_nil_of_length_eq_zero (gx.2.2.2.2 h4)
   simp[nodes,this,sz,h4]
theorem Ke {n:Nat} {x:Tm n} (h:aQ n x=0):aY n x=true:=by
 rw[<-ik]at h
 unfold zS at h
 cases hf:aY n x
 ·simp[hf]at h
 ·rfl
def iB (n:Nat) (x:Tm n) (room:Int) (ws:List Wd):Int:=if aQ n x≠0 then aQ n x else if av n x=false then 5 else if decide (sz n x<=room-ws.length)=false then 6 else 0
def JO (n:Nat) (x:Tm n) (base:Nat) (hp:HLoc) (room:Int) (ws:List Wd) (nm:List ByteArray) (M:Nat->Prop) (w:World) (e:Ending) (w':World):Prop:=
 (iB n x room ws≠0->e=.returned (.tuple #[Jv (0,0),.int .i64 (iB n x room ws)])/\Below w.heap.size w w')/\
 (iB n x room ws=0->(aQ n x=0/\av n x=true/\sz n x<=room-ws.length)/\e=.returned (.tuple #[Jv (aB n x ws nm).1,.int .i64 0])/\Laid base hp room (aB n x ws nm).2.1 (aB n x ws nm).2.2 M w w')
theorem uR (n:Nat) (x:Tm n) (base:Nat) (hp:HLoc) (room:Int) (ws:List Wd) (nm:List ByteArray) (M:Nat->Prop) (w:World) (h:HpAt base hp room ws nm M w) (hx:In w.heap.size w n x) (ho:Off (fun b=>¬M b) n x) (hN:(nodes n x).length<=2097152) (hbw:base<=w.heap.size) (hr0:0<=room) (hr:room<=1000) (hw:ws.length<=1000) (hn:nm.length<=50000):
    Calls Tryz.prog 51 #[.pointer (some ⟨hp.b,hp.o,none⟩),val n x] w (JO n x base hp room ws nm M w):=by
 cases n with
 | zero=>exact hx.elim
 | succ n=>
 have HC:∀w1,Below w.heap.size w w1->Calls Tryz.prog 42 #[val (n+1) x] w1 fun e w'=>e=.returned (.int .i64 (aQ (n+1) x))/\Below w1.heap.size w1 w':=fun w1 h1=>dh (n+1) x w.heap.size w1 (hx.below h1) h1.size hN
 have HL:∀w1,Below w.heap.size w w1->Calls Tryz.prog 43 #[val (n+1) x] w1 fun e w'=>e=.returned (.bool (av (n+1) x))/\Below w1.heap.size w1 w':=fun w1 h1=>gN (n+1) x w.heap.size w1 (hx.below h1) h1.size
 have HS:∀w1,Below w.heap.size w w1->Calls Tryz.prog 67 #[val (n+1) x] w1 fun e w'=>e=.returned (.int .i64 (sz (n+1) x))/\Below w1.heap.size w1 w':=fun w1 h1=>xz (n+1) x w.heap.size w1 (hx.below h1) h1.size hN
 have HF:∀w1,Below w.heap.size w w1->Calls Tryz.prog 77 #[.pointer (some ⟨hp.b,hp.o,none⟩),.int .i64 (sz (n+1) x)] w1 fun e w'=>e=.returned (.bool (decide (sz (n+1) x<=room-ws.length)))/\Below w1.heap.size w1 w':=by
  intro w1 h1
  obtain⟨tv,lv,mv,k1,k2,k3,_⟩:=h.later h1
  obtain⟨ta,tc,rfl⟩:∃ta tc,tv=.slice ta ws.length tc:=by
   rcases k2.2 with⟨e,e0⟩|⟨g,c,cur,e,_⟩
   ·exact⟨none,0,by rw[e,e0]⟩
   ·exact⟨_,c,e⟩
  exact Az hp room (sz (n+1) x) ta ws.length tc lv mv w1 (by omega) hr0 hr k1
 by_cases hc:aQ (n+1) x=0
 ·rw[hc]at HC
  by_cases hl:av (n+1) x=false
  ·rw[hl]at HL
   have e:iB (n+1) x room ws=5:=by simp[iB,hc,hl]
   refine(OP hp x.1.1 x.1.2.1 x.1.2.2 x.2.1.1 x.2.2.length x.2.1.2 w HC HL).mono ?_
   rintro e' w' ⟨rfl,hb⟩
   exact⟨fun _=>⟨by rw[e];rfl,hb⟩,fun h0=>absurd (e.symm.trans h0) (by decide)⟩
  ·have hl':av (n+1) x=true:=by simpa using hl
   rw[hl']at HL
   by_cases hz:sz (n+1) x<=room-ws.length
   ·have hd:decide (sz (n+1) x<=room-ws.length)=true:=by simpa using hz
    rw[hd]at HF
    have e:iB (n+1) x room ws=0:=by simp[iB,hc,hl',hz]
    have hrx:ai ⟨n+1,x⟩:=ax.2 (Ke hc)
    have hnl:=uG (n+1) x hrx
    have HY:∀w1,Below w.heap.size w w1->Calls Tryz.prog 78 #[.pointer (some ⟨hp.b,hp.o,none⟩),val (n+1) x] w1 fun e w'=>e=.returned (Jv (aB (n+1) x ws nm).1)/\Hid (Laid base hp room (aB (n+1) x ws nm).2.1 (aB (n+1) x ws nm).2.2 (fun b=>M b/\b<w.heap.size) w1 w'):=by
     intro w1 h1
     have hs:=h1.size
     exact Oc (n+1) x base hp room ws nm _ w1 (h.later h1) ((hx.below h1).mono hs) (ho.mono fun b hb hm=>hb hm.1) (by omega) hrx (by omega) (by omega)
    refine(Pm hp x.1.1 x.1.2.1 x.1.2.2 x.2.1.1 x.2.2.length x.2.1.2 w (sz (n+1) x) (aB (n+1) x ws nm).1 base room (aB (n+1) x ws nm).2.1 (aB (n+1) x ws nm).2.2 M HC HL HS HF HY).mono ?_
    rintro e' w' ⟨rfl,hb⟩
    exact⟨fun h0=>absurd e h0,fun _=>⟨⟨hc,hl',hz⟩,rfl,hb.out⟩⟩
   ·have hd:decide (sz (n+1) x<=room-ws.length)=false:=by simpa using hz
    rw[hd]at HF
    have e:iB (n+1) x room ws=6:=by simp[iB,hc,hl',hz]
    refine(OQ hp x.1.1 x.1.2.1 x.1.2.2 x.2.1.1 x.2.2.length x.2.1.2 w (sz (n+1) x) HC HL HS HF).mono ?_
    rintro e' w' ⟨rfl,hb⟩
    exact⟨fun _=>⟨by rw[e];rfl,hb⟩,fun h0=>absurd (e.symm.trans h0) (by decide)⟩
 ·have e:iB (n+1) x room ws=aQ (n+1) x:=by simp[iB,hc]
  refine(Ph hp x.1.1 x.1.2.1 x.1.2.2 x.2.1.1 x.2.2.length x.2.1.2 w (aQ (n+1) x) (by simpa using hc) HC).mono ?_
  rintro e' w' ⟨rfl,hb⟩
  exact⟨fun _=>⟨by rw[e];rfl,hb⟩,fun h0=>absurd (e.symm.trans h0) hc⟩
def GetBox (q:Nat) (k u:Int) (w:World):Prop:=w.heap[q]? =some (.cells #[.int .i64 k,.int .i64 u] 119)/\BoxZ (q+1) w
theorem Gg (w:World) (k u:Int):GetBox w.heap.size k u ((w.alloc (Obj.cells #[.int .i64 k,.int .i64 u] 119)).alloc (Obj.cells #[.int .i64 0,.int .i64 0,.string ⟨#[]⟩,.slice none 0 0] 30)):=by
 refine⟨((World.grownBy_alloc (w.alloc (Obj.cells #[.int .i64 k,.int .i64 u] 119)) (Obj.cells #[.int .i64 0,.int .i64 0,.string ⟨#[]⟩,.slice none 0 0] 30) none).block _ (by simp) (by simp)).trans (heap_alloc_new w _), ?_⟩
 have:=heap_alloc_new (w.alloc (Obj.cells #[.int .i64 k,.int .i64 u] 119)) (Obj.cells #[.int .i64 0,.int .i64 0,.string ⟨#[]⟩,.slice none 0 0] 30)
 have es:∀o,(w.alloc o).heap.size=w.heap.size+1:=fun o=>by simp
 rw[es]at this
 exact this
theorem vU {k u:Int} {w w1 w2:World} (h:Below w.heap.size w w1/\w.heap.size+2<=w1.heap.size/\GetBox w.heap.size k u w1) (hb:Below w1.heap.size w1 w2):Below w.heap.size w w2/\w.heap.size+2<=w2.heap.size/\GetBox w.heap.size k u w2:=by
 obtain⟨h1,h2,h3⟩:=h
 have:=hb.size
 exact⟨h1.trans (hb.mono h1.size),by omega,(hb.block _ (by omega)).trans h3.1,(hb.block _ (by omega)).trans h3.2⟩
theorem GetBox.cells {q:Nat} {k u:Int} {w:World} (h:GetBox q k u w):w.cell? ⟨q,0,none⟩=some (.int .i64 k)/\w.cell? ⟨q,1,none⟩=some (.int .i64 u):=by
 obtain⟨h1,_⟩:=h
 refine⟨?_, ?_⟩
 all_goals simp[World.cell?,h1]
theorem Qw (hp:HLoc) (k u:Int) (w:World) (HC:Hid (∀w1,Below w.heap.size w w1->Calls Tryz.prog 98 #[.pointer (some ⟨hp.b,hp.o,none⟩),.agg #[.int .i64 k,.int .i64 u]] w1 fun e w'=>e=.returned (.bool false)/\Below w1.heap.size w1 w')):
    Calls Tryz.prog 80 #[.pointer (some ⟨hp.b,hp.o,none⟩),.agg #[.int .i64 k,.int .i64 u]] w fun e w'=>e=.returned (.tuple #[.agg #[.int .i64 0,.int .i64 0,.string .empty,.slice none 0 0],.int .i64 1])/\Below w.heap.size w w':=by
 go_enter Tryz.func80,Tryz.ntmps80
 go_wp2_with fail
 generalize hw0:(w.alloc (Obj.cells #[.int .i64 k,.int .i64 u] 119)).alloc (Obj.cells #[.int .i64 0,.int .i64 0,.string ⟨#[]⟩,.slice none 0 0] 30)=w0
 have H0:Hid (Below w.heap.size w w0/\w.heap.size+2<=w0.heap.size/\GetBox w.heap.size k u w0):=by
  subst hw0
  exact⟨((Below.refl _ _).alloc (Nat.le_refl _) _).alloc (by simp) _,by simp,Gg _ _ _⟩
 clear hw0
 refine(HC.out _ H0.out.1).mono ?_
 rintro e w1 ⟨rfl,hb⟩
 have H1:=hide (vU H0.out hb)
 obtain⟨⟨q0,q1,q2,q3⟩,f0⟩:=H1.out.2.2.2.cells
 have HE:=hide (fun v0 v1 v2 v3=>zb H0.out.1 hb v0 v1 v2 v3)
 clear hb H0
 go_wp2_with fail
 exact bodyPost_ret (v:=.tuple #[.agg #[.int .i64 0,.int .i64 0,.string .empty,.slice none 0 0],.int .i64 1]) (by simp[results,Tryz.results80,go_sem,q0,q1,q2,q3];rfl) rfl ⟨rfl,HE.out _ _ _ _⟩
theorem Px (n:Nat) (x:Tm (n+1)) (hp:HLoc) (k u:Int) (w:World) (HC:Hid (∀w1,Below w.heap.size w w1->Calls Tryz.prog 98 #[.pointer (some ⟨hp.b,hp.o,none⟩),.agg #[.int .i64 k,.int .i64 u]] w1 fun e w'=>e=.returned (.bool true)/\Below w1.heap.size w1 w'))
    (HT:Hid (∀w1,Below w.heap.size w w1->Calls Tryz.prog 99 #[.pointer (some ⟨hp.b,hp.o,none⟩),.agg #[.int .i64 k,.int .i64 u]] w1 fun e w'=>∃y:Tm (n+1),e=.returned (val (n+1) y)/\Hid (Below w1.heap.size w1 w'/\In w'.heap.size w' (n+1) y/\Off (fun q=>w1.heap.size<=q) (n+1) y/\same (n+1) y (n+1) x=true))):
    Calls Tryz.prog 80 #[.pointer (some ⟨hp.b,hp.o,none⟩),.agg #[.int .i64 k,.int .i64 u]] w fun e w'=>∃y:Tm (n+1),e=.returned (.tuple #[val (n+1) y,.int .i64 0])/\Hid (Below w.heap.size w w'/\In w'.heap.size w' (n+1) y/\Off (fun q=>w.heap.size<=q) (n+1) y/\same (n+1) y (n+1) x=true):=by
 go_enter Tryz.func80,Tryz.ntmps80
 go_wp2_with fail
 generalize hw0:(w.alloc (Obj.cells #[.int .i64 k,.int .i64 u] 119)).alloc (Obj.cells #[.int .i64 0,.int .i64 0,.string ⟨#[]⟩,.slice none 0 0] 30)=w0
 have H0:Hid (Below w.heap.size w w0/\w.heap.size+2<=w0.heap.size/\GetBox w.heap.size k u w0):=by
  subst hw0
  exact⟨((Below.refl _ _).alloc (Nat.le_refl _) _).alloc (by simp) _,by simp,Gg _ _ _⟩
 clear hw0
 refine(HC.out _ H0.out.1).mono ?_
 rintro e w1 ⟨rfl,hb⟩
 have H1:=hide (vU H0.out hb)
 obtain⟨t0,t1⟩:=H1.out.2.2.cells
 clear hb H0
 go_wp2_with fail
 refine(HT.out _ H1.out.1).mono ?_
 rintro e w2 ⟨y,rfl,HY⟩
 have H2:=hide (vU H1.out HY.out.1)
 obtain⟨⟨q0,q1,q2,q3⟩,f0⟩:=H2.out.2.2.2.cells
 have HE:Hid (∀v0 v1 v2 v3,Below w.heap.size w (bK w2 (w.heap.size+1) 0 v0 v1 v2 v3)/\In (bK w2 (w.heap.size+1) 0 v0 v1 v2 v3).heap.size (bK w2 (w.heap.size+1) 0 v0 v1 v2 v3) (n+1) y/\Off (fun q=>w.heap.size<=q) (n+1) y/\same (n+1) y (n+1) x=true):=by
  intro v0 v1 v2 v3
  obtain⟨k1,k2,k3,k4⟩:=HY.out
  have hs:=H1.out.2.1
  refine⟨zb H1.out.1 k1 v0 v1 v2 v3, ?_,k3.mono fun q hq=>by omega,k4⟩
  rw[aJ]
  exact In.off (fun q hq=>aA (by omega) _ _ _ _) k3 k2
 have e3:val (n+1) y=.agg #[.int .i64 y.1.1,.int .i64 y.1.2.1,.string y.1.2.2,.slice y.2.1.1 y.2.2.length y.2.1.2]:=rfl
 rw[e3]
 clear t0 t1 HY H1 e3
 go_wp2_with fail
 exact bodyPost_ret (v:=.tuple #[val (n+1) y,.int .i64 0]) (by simp[results,Tryz.results80,go_sem,q0,q1,q2,q3,val]) rfl ⟨y,rfl,HE.out _ _ _ _⟩
end Go.Proofs.YtmbjgiaebneodaaGreat
