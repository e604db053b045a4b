/- What is proved here: plain facts and contracts that the claimed theorem stands on. No condition but those that each names. -/
import Derived.Test.YtmbjgiaebneodaaGreatG15
import Derived.Deep.QuietTactic
import Derived.BigQuiet
namespace Go.Proofs.YtmbjgiaebneodaaGreat
open Go.RowKit
set_option maxHeartbeats 1000000
set_option maxRecDepth 100000
def O4 (room:Int) (w:World) (e:Ending) (w':World):Prop:=
    (¬(0<=room/\room<=1000)->e=.returned (.tuple #[.pointer none,.int .i64 1])/\w'=w)/\
    (0<=room/\room<=1000->e=.returned (.tuple #[.pointer (some ⟨w.heap.size,0,none⟩),.int .i64 0])/\HB (HLoc.own w.heap.size) room (.slice none 0 0) (.slice none 0 0) (.map none) w'/\w'.heap.size=w.heap.size+1/\Below w.heap.size w w')
theorem Oh (room:Int) (w:World):Calls Tryz.prog 50 #[.int .i64 room] w (O4 room w):=by
 by_cases h0:room<0
 ·have b0:decide (room<0)=true:=by simpa using h0
  go_enter Tryz.func50,Tryz.ntmps50
  go_wp2_with fail
  go_ret2
  exact⟨fun _=>⟨rfl,rfl⟩,fun h=>by omega⟩
 ·by_cases h1:1000<room
  ·have b0:decide (room<0)=false:=by simpa using h0
   have b1:decide (1000<room)=true:=by simpa using h1
   go_enter Tryz.func50,Tryz.ntmps50
   go_wp2_with fail
   go_ret2
   exact⟨fun _=>⟨rfl,rfl⟩,fun h=>by omega⟩
  ·have b0:decide (room<0)=false:=by simpa using h0
   have b1:decide (1000<room)=false:=by simpa using h1
   go_enter Tryz.func50,Tryz.ntmps50
   go_wp2_with fail
   go_ret2
   exact⟨fun h=>by omega,fun _=>⟨rfl,⟨⟨rfl,Or.inl rfl⟩,heap_alloc_new w _⟩,by simp,(Below.refl _ _).alloc (Nat.le_refl _) _⟩⟩
def eF (ws:List Wd) (i:Int):Bool:=decide (0<=i) && match ws[i.toNat]? with
 | some x=>x.1==0
 | none=>false
theorem gM {base g c L:Nat} {ws:List Wd} {w:World} (h:w.ownsRow base 119 2 (.slice (some ⟨g,0,none⟩) L c) L (az ws)) (k:Nat) (x:Wd) (hx:ws[k]? =some x):w.cell? ⟨g,k*2,none⟩=some (.int .i64 x.1)/\w.cell? ⟨g,k*2+1,none⟩=some (.int .i64 x.2):=by
 have hc:=h.cells (g:=g) rfl
 refine⟨?_, ?_⟩
 ·have:=hc (k*2+0) (.int .i64 x.1) (by rw[gJ ws k x hx 0 (by omega)];rfl)
  rw[dX]at this;exact this
 ·have:=hc (k*2+1) (.int .i64 x.2) (by rw[gJ ws k x hx 1 (by omega)];rfl)
  rw[dX]at this;exact this
theorem Em (base:Nat) (ta:Option Addr) (L tc:Nat) (ws:List Wd) (i:Int) (w:World) (HL:Hid (ws.length=L)) (hL:L<=100000) (HR:Hid (w.ownsRow base 119 2 (.slice ta L tc) L (az ws))):
    Calls Tryz.prog 117 #[.slice ta L tc,.int .i64 i] w fun e w'=>e=.returned (.bool (eF ws i))/\w'=w:=by
 by_cases h0:0<=i
 ·obtain⟨k,rfl⟩:∃k:Nat,i=k:=⟨i.toNat,by omega⟩
  by_cases hlt:k<L
  ·obtain⟨x,hx⟩:∃x,ws[k]? =some x:=⟨ws[k]'(by rw[HL.out];exact hlt),List.getElem?_eq_getElem _⟩
   obtain⟨g,c,hv,_,_⟩:=HR.out.form (by omega)
   simp at hv
   obtain⟨rfl,rfl⟩:=hv
   obtain⟨x0,x1⟩:=gM HR.out k x hx
   have HB:Hid (eF ws k=(x.1==0)):=by simp[Hid,eF,hx]
   have b0:decide ((0:Int)<=(k:Int))=true:=by simp
   have b1:decide ((k:Int)<(L:Int))=true:=by simp;omega
   have hk1:(0:Int)<=(k:Int):=by omega
   have hk2:(k:Int)<(L:Int):=by omega
   clear hx
   go_enter Tryz.func117,Tryz.ntmps117
   go_wp2_with fail
   go_ret
   exact⟨dH HB.out.symm,rfl⟩
  ·have HB:Hid (eF ws k=false):=by
     have:ws[k]? =none:=List.getElem?_eq_none (by rw[HL.out];omega)
     simp[Hid,eF,this]
   have b0:decide ((0:Int)<=(k:Int))=true:=by simp
   have b1:decide ((k:Int)<(L:Int))=false:=by simp;omega
   go_enter Tryz.func117,Tryz.ntmps117
   go_wp2_with fail
   go_ret
   exact⟨dH HB.out.symm,rfl⟩
 ·have HB:Hid (eF ws i=false):=by simp[Hid,eF,h0]
  have b0:decide (0<=i)=false:=by simpa using h0
  go_enter Tryz.func117,Tryz.ntmps117
  go_wp2_with fail
  go_ret
  exact⟨dH HB.out.symm,rfl⟩
def hasB (L:Nat) (i:Int):Bool:=decide (0<=i) && decide (i<L)
theorem Np (hp:HLoc) (room:Int) (tv:Value) (la:Option Addr) (L lc:Nat) (mv:Value) (i:Int) (w:World) (HBX:Hid (HB hp room tv (.slice la L lc) mv w)):
    Calls Tryz.prog 116 #[.pointer (some ⟨hp.b,hp.o+2,none⟩),.int .i64 i] w fun e w'=>e=.returned (.bool (hasB L i))/\w'=w:=by
 obtain⟨⟨c0,c1,c2,c3⟩,hf⟩:=HBX.out.cells
 by_cases h0:0<=i
 ·have HB:Hid (hasB L i=decide (i<L)):=by simp[Hid,hasB,h0]
  have b0:decide (0<=i)=true:=by simpa using h0
  go_enter Tryz.func116,Tryz.ntmps116
  go_wp2_with fail
  go_ret
  exact⟨dH HB.out.symm,rfl⟩
 ·have HB:Hid (hasB L i=false):=by simp[Hid,hasB,h0]
  have b0:decide (0<=i)=false:=by simpa using h0
  go_enter Tryz.func116,Tryz.ntmps116
  go_wp2_with fail
  go_ret
  exact⟨dH HB.out.symm,rfl⟩
theorem PN (l:List ByteArray) (k:Nat) (s:ByteArray) (h:l[k]? =some s):(strCells l)[k]? =some (.string s):=by simp[strCells,h]
theorem DK (base:Nat) (hp:HLoc) (room:Int) (tv lv mv:Value) (nm:List ByteArray) (i:Nat) (s:ByteArray) (w:World) (HBX:Hid (HB hp room tv lv mv w)) (HR:Hid (w.ownsRow base 9 1 lv nm.length (strCells nm))) (hi:Hid (nm[i]? =some s)) (hL:nm.length<=100000) (hsz:s.size<=2048):
    Calls Tryz.prog 118 #[.pointer (some ⟨hp.b,hp.o+2,none⟩),.int .i64 i] w fun e w'=>e=.returned (.string s)/\Below w.heap.size w w':=by
 have hlt:i<nm.length:=(List.getElem?_eq_some_iff.1 hi.out).1
 obtain⟨g,c,rfl,_,_⟩:=HR.out.form (by omega)
 have x0:w.cell? ⟨g,i,none⟩=some (.string s):=by
  have:=HR.out.cells (g:=g) rfl i (.string s) (PN nm i s hi.out)
  rw[dX]at this;exact this
 obtain⟨⟨c0,c1,c2,c3⟩,hf⟩:=HBX.out.cells
 generalize nm.length=L at*
 have hk1:(0:Int)<=(i:Int):=by omega
 have hk2:(i:Int)<(L:Int):=by omega
 go_enter Tryz.func118,Tryz.ntmps118
 go_wp2_with fail
 refine(cB s _ hsz).mono ?_
 rintro e w1 ⟨rfl,hb1⟩
 go_wp2_with fail
 go_ret
 exact⟨rfl,hb1⟩
theorem Az (hp:HLoc) (room n:Int) (ta:Option Addr) (L tc:Nat) (lv mv:Value) (w:World) (hL:L<=100000) (hr0:0<=room) (hr:room<=1000) (HBX:Hid (HB hp room (.slice ta L tc) lv mv w)):
    Calls Tryz.prog 77 #[.pointer (some ⟨hp.b,hp.o,none⟩),.int .i64 n] w fun e w'=>e=.returned (.bool (decide (n<=room-L)))/\Below w.heap.size w w':=by
 obtain⟨⟨c0,c1,c2,c3⟩,hf⟩:=HBX.out.cells
 go_enter Tryz.func77,Tryz.ntmps77
 go_wp2_with fail
 go_quiet (fail)
 go_wp2_with fail
 go_ret
 exact⟨rfl,⟨rfl,rfl,rfl,Nat.le_refl _,fun _ _=>rfl⟩⟩
theorem sV (ws:List Wd) (k n j:Nat) (hj:j<n*2):(az ((ws.drop k).take n))[j]? =(az ws)[k*2+j]? :=by
 by_cases hl:k+j / 2<ws.length
 ·obtain⟨x,hx⟩:∃x,ws[k+j / 2]? =some x:=⟨_,List.getElem?_eq_getElem hl⟩
  have h1:((ws.drop k).take n)[j / 2]? =some x:=by
   rw[List.getElem?_take_of_lt (by omega),List.getElem?_drop]
   exact hx
  have e1:j=j / 2*2+j % 2:=by omega
  have e2:k*2+j=(k+j / 2)*2+j % 2:=by omega
  rw[e2,gJ ws (k+j / 2) x hx (j % 2) (by omega)]
  conv=>lhs;rw[e1]
  rw[gJ _ (j / 2) x h1 (j % 2) (by omega)]
 ·rw[List.getElem?_eq_none (l:=az ws) (by rw[bf];omega),List.getElem?_eq_none (by rw[bf,List.length_take,List.length_drop];omega)]
def PartsAt (ws:List Wd) (k n g:Nat) (w:World) (e:Ending) (w':World):Prop:=w'=w/\∃pa pc,e=.returned (.slice (some pa) n pc)/\pa.block=g/\dO w ((ws.drop (k+1)).take n) (some pa)/\∃o,pa=⟨g,o,none⟩
theorem Nu {base g L c:Nat} {xs:List Value} {ty:TypeId} {sz:Nat} {w:World} (h:w.ownsRow base ty sz (.slice (some ⟨g,0,none⟩) L c) L xs):L<=c/\c<=maxLen:=by
 rcases h.2 with⟨h,_⟩|⟨g',cap,cur,h,_,_,h3,h4,_⟩
 ·simp at h
 ·injection h with _ _ h
  subst h
  exact⟨h3,h4⟩
theorem xV (base:Nat) (g L tc k n:Nat) (ws:List Wd) (w:World) (hL:L<=100000) (HR:Hid (w.ownsRow base 119 2 (.slice (some ⟨g,0,none⟩) L tc) L (az ws))) (hx:Hid (ws[k]? =some (0,(n:Int)))) (hk:k+1+n<=L):
    Calls Tryz.prog 120 #[.slice (some ⟨g,0,none⟩) L tc,.int .i64 k] w (PartsAt ws k n g w):=by
 obtain⟨x0,x1⟩:=gM HR.out k _ hx.out
 obtain⟨htc,hmx⟩:=Nu HR.out
 have HW:Hid (∀o,(n=0∨o=(k+1)*2)->dO w ((ws.drop (k+1)).take n) (some ⟨g,o,none⟩)):=by
  rintro o (rfl|rfl)
  ·exact Or.inl (by simp)
  ·refine Or.inr ⟨_,rfl,fun j u hj=> ?_⟩
   have hjn:j<n*2:=by
    have:=(List.getElem?_eq_some_iff.1 hj).1
    rw[bf,List.length_take]at this
    omega
   rw[sV ws (k+1) n j hjn]at hj
   have:=HR.out.cells (g:=g) rfl _ u hj
   rw[dX]at this
   have e:(⟨g,(k+1)*2,none⟩:Addr).add j=⟨g,(k+1)*2+j,none⟩:=by
    unfold Addr.add
    by_cases h:j=0<;>simp[h]
   rw[e]
   exact this
 have hmx':(tc:Int)<=9223372036854775807:=by unfold maxLen at hmx;omega
 clear hmx
 by_cases hc:tc=k+1
 ·subst hc
  have hn:n=0:=by omega
  subst hn
  go_enter Tryz.func120,Tryz.ntmps120
  go_wp2_with fail
  go_ret
  exact⟨rfl,_,_,rfl,rfl,HW.out _ (by simp),_,rfl⟩
 ·go_enter Tryz.func120,Tryz.ntmps120
  go_wp2_with fail
  go_ret
  exact⟨rfl,_,_,rfl,rfl,HW.out _ (Or.inr rfl),_,rfl⟩
def Qd (s t:ByteArray):Bool:=t.data==s.data
theorem nz (s t:ByteArray):Qd s t=true ↔ t=s:=by
 cases s;cases t
 simp[Qd]
def dE (nm:List ByteArray) (s:ByteArray):List ByteArray:=if nm.any (Qd s)then nm else nm++ [s]
def jF (nm:List ByteArray) (s:ByteArray):Nat:=nm.findIdx (Qd s)
theorem Ae (nm:List ByteArray) (s:ByteArray):nm.any (Qd s)=true ↔ s∈nm:=by
 rw[List.any_eq_true]
 constructor
 ·rintro ⟨t,ht,e⟩
  rw[nz]at e
  exact e▸ht
 ·exact fun h=>⟨s,h,(nz s s).2 rfl⟩
theorem AX {nm:List ByteArray} {s:ByteArray} (hnd:nm.Nodup) {i:Nat} (hi:nm[i]? =some s):jF nm s=i:=by
 have hl:=(List.getElem?_eq_some_iff.1 hi).1
 have hlt:jF nm s<nm.length:=by
  unfold jF
  rw[List.findIdx_lt_length]
  exact⟨s,List.mem_of_getElem? hi,(nz s s).2 rfl⟩
 have he:nm[jF nm s]'hlt=s:=(nz s _).1 (List.findIdx_getElem (w:=hlt))
 have e2:nm[jF nm s]? =nm[i]? :=by rw[hi,List.getElem?_eq_getElem hlt,he]
 exact(List.getElem?_inj hlt hnd).1 e2
def aO {α:Type} (f:α->List Wd->List ByteArray->Wd×List Wd×List ByteArray):List α->List Wd->List ByteArray->List Wd×List Wd×List ByteArray
 | [],ws,nm=>([],ws,nm)
 | y::l,ws,nm=>((f y ws nm).1::(aO f l (f y ws nm).2.1 (f y ws nm).2.2).1,(aO f l (f y ws nm).2.1 (f y ws nm).2.2).2)
def aB:(n:Nat)->Tm n->List Wd->List ByteArray->Wd×List Wd×List ByteArray
 | 0,_,ws,nm=>((0,0),ws,nm)
 | n+1,x,ws,nm=>
  if x.1.1=2 then ((2,(jF (dE nm x.1.2.2) x.1.2.2:Int)),ws,dE nm x.1.2.2)
  else if x.1.1=4 then
   ((4,((aO (aB n) x.2.2 ws nm).2.1.length:Int)),(aO (aB n) x.2.2 ws nm).2.1++(0,(x.2.2.length:Int))::(aO (aB n) x.2.2 ws nm).1,(aO (aB n) x.2.2 ws nm).2.2)
  else ((x.1.1,x.1.2.1),ws,nm)
theorem Ir {α:Type} (f:α->List Wd->List ByteArray->Wd×List Wd×List ByteArray) (l:List α) (y:α) (ws:List Wd) (nm:List ByteArray):
    aO f (l++ [y]) ws nm=((aO f l ws nm).1++ [(f y (aO f l ws nm).2.1 (aO f l ws nm).2.2).1],(f y (aO f l ws nm).2.1 (aO f l ws nm).2.2).2):=by
 induction l generalizing ws nm with
 | nil=>simp[aO]
 | cons a l ih=>simp[aO,ih]
theorem fD {α:Type} (f:α->List Wd->List ByteArray->Wd×List Wd×List ByteArray) (l:List α) (ws:List Wd) (nm:List ByteArray):(aO f l ws nm).1.length=l.length:=by
 induction l generalizing ws nm with
 | nil=>simp[aO]
 | cons a l ih=>simp[aO,ih]
theorem zP (nm:List ByteArray) (s:ByteArray):(dE nm s).length<=nm.length+1:=by
 unfold dE
 split<;>simp
theorem gG:(n:Nat)->(x:Tm n)->(ws:List Wd)->(nm:List ByteArray)->((aB n x ws nm).2.1.length:Int)=ws.length+sz n x/\(aB n x ws nm).2.2.length<=nm.length+(nodes n x).length
 | 0,_,_,_=>by simp[aB,sz]
 | n+1,x,ws,nm=>by
  have key:∀(l:List (Tm n)) (ws:List Wd) (nm:List ByteArray),((aO (aB n) l ws nm).2.1.length:Int)+l.length=ws.length+(l.map fun y=>1+sz n y).sum/\(aO (aB n) l ws nm).2.2.length<=nm.length+(l.flatMap fun y=>nodes n y).length:=by
   intro l
   induction l with
   | nil=>intro ws nm;simp[aO]
   | cons y l ih=>
    intro ws nm
    obtain⟨a1,a2⟩:=gG n y ws nm
    obtain⟨b1,b2⟩:=ih (aB n y ws nm).2.1 (aB n y ws nm).2.2
    simp only[aO,List.map_cons,List.sum_cons,List.flatMap_cons,List.length_append,List.length_cons]
    exact⟨by omega,by omega⟩
  obtain⟨k1,k2⟩:=key x.2.2 ws nm
  have k3:=zP nm x.1.2.2
  have k4:=fD (aB n) x.2.2 ws nm
  have k5:(nodes (n+1) x).length=1+(x.2.2.flatMap fun y=>nodes n y).length:=by simp[nodes];omega
  rw[k5]
  by_cases h2:x.1.1=2
  ·have h4:¬x.1.1=4:=by omega
   simp only[aB,sz,if_pos h2,if_neg h4]
   exact⟨by omega,by omega⟩
  ·by_cases h4:x.1.1=4
   ·simp only[aB,sz,if_neg h2,if_pos h4,List.length_append,List.length_cons,k4]
    exact⟨by omega,by omega⟩
   ·simp only[aB,sz,if_neg h2,if_neg h4]
    exact⟨by omega,by omega⟩
def HpAt (base:Nat) (hp:HLoc) (room:Int) (ws:List Wd) (nm:List ByteArray) (M:Nat->Prop) (w:World):Prop:=
 ∃tv lv mv,HB hp room tv lv mv w/\w.ownsRow base 119 2 tv ws.length (az ws)/\NamesAt base nm lv mv w/\M hp.b/\(∀b,tv.ownBlock=some b->M b)/\(∀b,lv.ownBlock=some b->M b)/\∀b,mapBlock mv=some b->M b
theorem di {base:Nat} {e:TypeId} {sz:Nat} {v:Value} {n:Nat} {xs:List Value} {w w':World} {S:Nat->Prop} (h:w.ownsRow base e sz v n xs) (k:Keep S w w') (h1:∀b,v.ownBlock=some b->¬S b):w'.ownsRow base e sz v n xs:=by
 refine⟨h.1, ?_⟩
 rcases h.2 with⟨e,e0⟩|⟨g,cap,cur,e,hg,hh,hr⟩
 ·exact Or.inl ⟨e,e0⟩
 ·exact Or.inr ⟨g,cap,cur,e,hg,(k.block g (Array.getElem?_eq_some_iff.1 hh).1 (h1 g (by rw[e];rfl))).trans hh,hr⟩
theorem HpAt.kept {base:Nat} {hp:HLoc} {room:Int} {ws:List Wd} {nm:List ByteArray} {M S:Nat->Prop} {w w':World} (h:HpAt base hp room ws nm M w) (k:Keep S w w') (hd:∀b,M b->b<w.heap.size->¬S b):HpAt base hp room ws nm M w':=by
 obtain⟨tv,lv,mv,h1,h2,h3,h4,h5,h6,h7⟩:=h
 refine⟨tv,lv,mv,h1.kept (k.block hp.b h1.lt (hd hp.b h4 h1.lt)),di h2 k fun b e=>hd b (h5 b e) (h2.lt b e).2, ?_,h4,h5,h6,h7⟩
 refine h3.kept k (fun b e=>hd b (h6 b e) (h3.1.lt b e).2) fun b e=>hd b (h7 b e) ?_
 rcases h3.2.2 with⟨rfl,_⟩|⟨mb,D,rfl,_,hm,_⟩
 ·simp[mapBlock]at e
 ·simp only[mapBlock]at e
  obtain rfl:=Option.some.inj e
  exact hm.lt
theorem HpAt.mono {base:Nat} {hp:HLoc} {room:Int} {ws:List Wd} {nm:List ByteArray} {M S:Nat->Prop} {w:World} (h:HpAt base hp room ws nm M w) (k:∀b,M b->S b):HpAt base hp room ws nm S w:=by
 obtain⟨tv,lv,mv,h1,h2,h3,h4,h5,h6,h7⟩:=h
 exact⟨tv,lv,mv,h1,h2,h3,k _ h4,fun b e=>k b (h5 b e),fun b e=>k b (h6 b e),fun b e=>k b (h7 b e)⟩
def Laid (base:Nat) (hp:HLoc) (room:Int) (ws:List Wd) (nm:List ByteArray) (M:Nat->Prop) (w w':World):Prop:=HpAt base hp room ws nm (fun b=>M b∨w.heap.size<=b) w'/\Keep M w w'
theorem yj {w:World} {base base':Nat} {e e':TypeId} {s s' n n':Nat} {v v':Value} {xs ys:List Value} (h:w.ownsRow base e s v n xs) (h':w.ownsRow base' e' s' v' n' ys) (hne:e≠e'):∀b,v.ownBlock=some b->v'.ownBlock≠some b:=by
 intro b e1 e2
 rcases h.2 with⟨rfl,_⟩|⟨g,cap,cur,rfl,_,hh,_⟩
 ·simp[Value.ownBlock]at e1
 ·rcases h'.2 with⟨rfl,_⟩|⟨g',cap',cur',rfl,_,hh',_⟩
  ·simp[Value.ownBlock]at e2
  ·simp only[Value.ownBlock]at e1 e2
   obtain rfl:=Option.some.inj e1
   obtain rfl:=Option.some.inj e2
   rw[hh]at hh'
   injection hh' with hh'
   injection hh' with _ hh'
   exact hne hh'
theorem lh {w:World} {base:Nat} {e:TypeId} {s n:Nat} {v:Value} {xs:List Value} {hp:HLoc} {room:Int} {tv lv mv:Value} (h:w.ownsRow base e s v n xs) (hB:HB hp room tv lv mv w) (hne:e≠130/\e≠132):v.ownBlock≠some hp.b:=fun e=>by
 rcases h.2 with⟨rfl,_⟩|⟨g',cap,cur,rfl,_,hh,_⟩
 ·simp[Value.ownBlock]at e
 ·simp[Value.ownBlock]at e
  subst e
  have h2:w.heap[hp.b]? =_:=hB.2
  rw[hh]at h2
  injection h2 with h2
  injection h2 with h2 h3
  rcases hB.1.2 with t1|t1
  ·exact hne.1 (h3.trans t1)
  ·exact hne.2 (h3.trans t1)
theorem FU {w:World} {base:Nat} {e:TypeId} {s n:Nat} {v:Value} {xs:List Value} {nm:List ByteArray} {lv mv:Value} {base':Nat} (h:w.ownsRow base e s v n xs) (hN:NamesAt base' nm lv mv w):∀b,v.ownBlock=some b->mapBlock mv≠some b:=by
 intro b e1 e2
 rcases h.2 with⟨rfl,_⟩|⟨g,cap,cur,rfl,_,hh,_⟩
 ·simp[Value.ownBlock]at e1
 ·rcases hN.2.2 with⟨rfl,_⟩|⟨mb,D,rfl,_,hm,_⟩
  ·simp[mapBlock]at e2
  ·simp only[Value.ownBlock,mapBlock]at e1 e2
   obtain rfl:=Option.some.inj e1
   obtain rfl:=Option.some.inj e2
   obtain⟨es,clock,hh',_⟩:=hm
   rw[hh]at hh'
   cases hh'
theorem uj {w:World} {nm:List ByteArray} {lv mv:Value} {base:Nat} {hp:HLoc} {room:Int} {tv lv' mv':Value} (hN:NamesAt base nm lv mv w) (hB:HB hp room tv lv' mv' w):mapBlock mv≠some hp.b:=fun e=>by
 rcases hN.2.2 with⟨rfl,_⟩|⟨mb,D,rfl,_,hm,_⟩
 ·simp[mapBlock]at e
 ·simp only[mapBlock]at e
  obtain rfl:=Option.some.inj e
  obtain⟨es,clock,hh',_⟩:=hm
  have h2:w.heap[hp.b]? =_:=hB.2
  rw[hh']at h2
  cases h2
theorem Nf {nm nm':List ByteArray} {s:ByteArray} {i:Nat} (hnd:nm'.Nodup) (hi:nm'[i]? =some s) (h:nm'=nm∨nm'=nm++ [s]):nm'=dE nm s/\i=jF (dE nm s) s:=by
 have e:nm'=dE nm s:=by
  unfold dE
  by_cases hs:s∈nm
  ·rw[if_pos ((Ae nm s).2 hs)]
   rcases h with h|h
   ·exact h
   ·rw[h,List.nodup_append]at hnd
    exact absurd rfl (hnd.2.2 s hs s (by simp))
  ·rw[if_neg (fun e=>hs ((Ae nm s).1 e))]
   rcases h with h|h
   ·rw[h]at hi
    exact absurd (List.mem_of_getElem? hi) hs
   ·exact h
 refine⟨e, ?_⟩
 rw[<-e]
 exact(AX hnd hi).symm
theorem MU (base:Nat) (hp:HLoc) (room:Int) (ws:List Wd) (nm:List ByteArray) (M:Nat->Prop) (s:ByteArray) (w:World) (h:HpAt base hp room ws nm M w) (hbw:base<=w.heap.size) (hL:nm.length<=100000) (hsz:s.size<=2048):
    Calls Tryz.prog 96 #[.pointer (some ⟨hp.b,hp.o+2,none⟩),.string s] w fun e w'=>e=.returned (.int .i64 (jF (dE nm s) s:Int))/\Hid (Laid base hp room ws (dE nm s) M w w'):=by
 obtain⟨tv,lv,mv,h1,h2,h3,h4,h5,h6,h7⟩:=h
 refine(Dx base hp room tv lv mv nm s w h1 h3 hbw hL hsz).mono ?_
 rintro e w' ⟨i,rfl,nm',lv',mv',H⟩
 obtain⟨k1,k2,k3,k4,k5,k6,k7⟩:=H.out
 obtain⟨e1,e2⟩:=Nf k4.2.1 k1 k2
 subst e1
 refine⟨by rw[e2],⟨tv,lv',mv',k3,di h2 k5 ?_,k4,Or.inl h4,fun b e=>Or.inl (h5 b e), ?_, ?_⟩,k5.mono ?_⟩
 ·rintro b e (rfl|e'|e')
  ·exact lh h2 h1 (by decide) e
  ·exact yj h2 h3.1 (by decide) b e e'
  ·exact FU h2 h3 b e e'
 ·intro b e
  rcases k6 b e with e|e
  ·exact Or.inl (h6 b e)
  ·exact Or.inr e
 ·intro b e
  rcases k7 b e with e|e
  ·exact Or.inl (h7 b e)
  ·exact Or.inr e
 ·rintro b (rfl|e|e)
  ·exact h4
  ·exact h6 b e
  ·exact h7 b e
theorem QS (base:Nat) (hp:HLoc) (room:Int) (ws:List Wd) (nm:List ByteArray) (M:Nat->Prop) (ps:List Wd) (m pc:Nat) (pa:Option Addr) (w:World) (h:HpAt base hp room ws nm M w) (hbw:base<=w.heap.size) (hL:ws.length<=100000) (hm:ps.length=m) (hM:m<=1000)
    (HS:∀w1,Keep M w w1->dO w1 ps pa):
    Calls Tryz.prog 97 #[.pointer (some ⟨hp.b,hp.o+1,none⟩),.slice pa m pc] w fun e w'=>e=.returned (.agg #[.int .i64 4,.int .i64 ws.length])/\Hid (Laid base hp room (ws++(0,(m:Int))::ps) nm M w w'):=by
 obtain⟨tv,lv,mv,h1,h2,h3,h4,h5,h6,h7⟩:=h
 obtain⟨⟨c0,c1,c2,c3⟩,hf⟩:=h1.cells
 obtain⟨ta,tc,htv⟩:∃ta tc,tv=.slice ta ws.length tc:=by
  rcases h2.2 with⟨e,e0⟩|⟨g,c,cur,e,_⟩
  ·exact⟨none,0,by rw[e,e0]⟩
  ·exact⟨_,c,e⟩
 subst hm
 refine(BC base hp.b (hp.o+1) tv ta tc ws.length ws ps ps.length pc pa w htv rfl rfl hL hM hbw c1 (hf _) h1.lt (lh h2 h1 (by decide)) h2 ?_).mono ?_
 ·intro w1 k
  refine HS w1 (k.mono ?_)
  rintro b (rfl|e)
  ·exact h4
  ·exact h5 b e
 ·rintro e w' ⟨rfl,tv',H⟩
  obtain⟨k1,k2,k3,k4⟩:=H.out
  refine⟨rfl,⟨tv',lv,mv,(h1.set1 tv').kept k2, ?_,h3.kept k3 ?_ ?_,Or.inl h4, ?_,fun b e=>Or.inl (h6 b e),fun b e=>Or.inl (h7 b e)⟩,k3.mono ?_⟩
  ·have e:(ws++(0,(ps.length:Int))::ps).length=ws.length+1+ps.length:=by simp;omega
   rw[e]
   exact k1
  ·rintro b e (rfl|e')
   ·exact lh h3.1 h1 (by decide) e
   ·exact yj h2 h3.1 (by decide) b e' e
  ·rintro b e (rfl|e')
   ·exact uj h3 h1 e
   ·exact FU h2 h3 b e' e
  ·intro b e
   rcases k4 b e with e|e
   ·exact Or.inl (h5 b e)
   ·exact Or.inr e
  ·rintro b (rfl|e)
   ·exact h4
   ·exact h5 b e
theorem HpAt.inside {base:Nat} {hp:HLoc} {room:Int} {ws:List Wd} {nm:List ByteArray} {M:Nat->Prop} {w:World} (h:HpAt base hp room ws nm M w):HpAt base hp room ws nm (fun b=>M b/\b<w.heap.size) w:=by
 obtain⟨tv,lv,mv,h1,h2,h3,h4,h5,h6,h7⟩:=h
 refine⟨tv,lv,mv,h1,h2,h3,⟨h4,h1.lt⟩,fun b e=>⟨h5 b e,(h2.lt b e).2⟩,fun b e=>⟨h6 b e,(h3.1.lt b e).2⟩,fun b e=>⟨h7 b e, ?_⟩⟩
 rcases h3.2.2 with⟨rfl,_⟩|⟨mb,D,rfl,_,hm,_⟩
 ·simp[mapBlock]at e
 ·simp only[mapBlock]at e
  obtain rfl:=Option.some.inj e
  exact hm.lt
theorem HpAt.later {base:Nat} {hp:HLoc} {room:Int} {ws:List Wd} {nm:List ByteArray} {M:Nat->Prop} {w wA:World} (h:HpAt base hp room ws nm M w) (hb:Below w.heap.size w wA):HpAt base hp room ws nm (fun b=>M b/\b<w.heap.size) wA:=
 h.inside.kept (aD hb (fun _=>False)) fun _ _ _ h=>h
theorem CE {base:Nat} {hp:HLoc} {room:Int} {ws:List Wd} {nm:List ByteArray} {M:Nat->Prop} {w wA w2:World} (h:Laid base hp room ws nm (fun b=>M b/\b<w.heap.size) wA w2) (hA:Below w.heap.size w wA) (hs:w.heap.size+2<=wA.heap.size) (v0 v1:Value):
    Laid base hp room ws nm M w ((w2.setCell ⟨w.heap.size+1,0,none⟩ v0).setCell ⟨w.heap.size+1,1,none⟩ v1):=by
 obtain⟨h1,h2⟩:=h
 have k1:=aI w2 (w.heap.size+1) 0 v0
 have k2:=aI (w2.setCell ⟨w.heap.size+1,0,none⟩ v0) (w.heap.size+1) 1 v1
 have k3:=k1.trans k2 (fun b _ h=>h)
 refine⟨(h1.kept k3 ?_).mono ?_, ?_⟩
 ·rintro b (⟨_,hb⟩|hb) _ e
  ·omega
  ·omega
 ·rintro b (⟨hm,_⟩|hb)
  ·exact Or.inl hm
  ·exact Or.inr (by omega)
 ·have h3:Keep (fun b=>(M b/\b<w.heap.size)∨b=w.heap.size+1) wA _:=(h2.mono (fun b h=>Or.inl h)).trans k3 (fun b _ h=>Or.inr h)
  refine(aD hA M).trans h3 ?_
  rintro b hb (h|h)
  ·exact h.1
  ·omega
theorem vQ {base:Nat} {hp:HLoc} {room:Int} {ws:List Wd} {nm:List ByteArray} {M:Nat->Prop} {w wA w2:World} (h:Laid base hp room ws nm (fun b=>M b/\b<w.heap.size) wA w2):∀b,w.heap.size<=b->b<wA.heap.size->∀o,w2.cell? ⟨b,o,none⟩=wA.cell? ⟨b,o,none⟩/\w2.frozen? ⟨b,o,none⟩=wA.frozen? ⟨b,o,none⟩:=by
 intro b h1 h2 o
 have e:=h.2.block b h2 (fun h=>by omega)
 exact⟨aK e o,World.frozen?_of_block (a:=⟨b,o,none⟩) e⟩
theorem LV (hp:HLoc) (k u:Int) (s:ByteArray) (a:Option Addr) (l c:Nat) (w:World) (h2:¬k=2) (h4:¬k=4):
    Calls Tryz.prog 78 #[.pointer (some ⟨hp.b,hp.o,none⟩),.agg #[.int .i64 k,.int .i64 u,.string s,.slice a l c]] w fun e w'=>e=.returned (.agg #[.int .i64 k,.int .i64 u])/\Below w.heap.size w w':=by
 have b2:(k==2)=false:=by simpa using h2
 have b4:(k==4)=false:=by simpa using h4
 go_enter Tryz.func78,Tryz.ntmps78
 go_wp2_with fail
 exact bodyPost_ret (v:=.agg #[.int .i64 k,.int .i64 u]) (by simp[results,Tryz.results78,go_sem]) rfl ⟨rfl,by go_grown⟩
theorem KR (base:Nat) (hp:HLoc) (room:Int) (ws:List Wd) (nm:List ByteArray) (M:Nat->Prop) (u:Int) (s:ByteArray) (a:Option Addr) (l c:Nat) (w:World) (h:Hid (HpAt base hp room ws nm M w)) (hbw:base<=w.heap.size) (hL:nm.length<=100000) (hsz:s.size<=2048):
    Calls Tryz.prog 78 #[.pointer (some ⟨hp.b,hp.o,none⟩),.agg #[.int .i64 2,.int .i64 u,.string s,.slice a l c]] w fun e w'=>e=.returned (.agg #[.int .i64 2,.int .i64 (jF (dE nm s) s:Int)])/\Hid (Laid base hp room ws (dE nm s) M w w'):=by
 generalize hix:jF (dE nm s) s=ix
 go_enter Tryz.func78,Tryz.ntmps78
 go_wp2_with fail
 generalize hwA:(w.alloc (Obj.cells #[Value.int IntKind.i64 2,Value.int IntKind.i64 u,Value.string s,Value.slice a l c] 30)).alloc (Obj.cells #[Value.int IntKind.i64 0,Value.int IntKind.i64 0] 119)=wA
 have HA:Hid (Below w.heap.size w wA.drew/\wA.drew.heap.size=w.heap.size+2):=by
  subst hwA
  exact⟨(((Below.refl _ _).alloc (Nat.le_refl _) _).alloc (by simp) _).drew,by simp[World.drew]⟩
 have e2:wA.cell? ⟨w.heap.size,2,none⟩=some (.string s):=by subst hwA;simp[go_sem]
 have HR:Hid ((wA.cell? ⟨w.heap.size+1,0,none⟩=some (.int .i64 0)/\wA.cell? ⟨w.heap.size+1,1,none⟩=some (.int .i64 0))/\wA.frozen? ⟨w.heap.size+1,0,none⟩=false/\wA.frozen? ⟨w.heap.size+1,1,none⟩=false):=by subst hwA;simp[Hid,go_sem]
 have HC:Hid (Calls Tryz.prog 96 #[.pointer (some ⟨hp.b,hp.o+2,none⟩),.string s] wA.drew fun e w'=>e=.returned (.int .i64 ix)/\Hid (Laid base hp room ws (dE nm s) (fun b=>M b/\b<w.heap.size) wA.drew w')):=by
  have hc:=MU base hp room ws nm _ s wA.drew (h.out.later HA.out.1) (by have:=HA.out.2;omega) hL hsz
  rw[hix]at hc
  exact hc
 clear hwA hix
 go_region_held3 (fun w'=>w'.cell? ⟨w.heap.size,2,none⟩=some (.string s)) (go_keep) ((go_at_call 96;refine HC.out.mono ?_;rintro e w2 ⟨rfl,HL⟩;have HCC:=hide (vQ HL.out);have hcc:=fun o=>(HCC.out w.heap.size (Nat.le_refl _) (by have:=HA.out.2;omega) o).1;have d0:=(HCC.out (w.heap.size+1) (by omega) (by have:=HA.out.2;omega) 0).1.trans HR.out.1.1;have d1:=(HCC.out (w.heap.size+1) (by omega) (by have:=HA.out.2;omega) 1).1.trans HR.out.1.2;have f0:=(HCC.out (w.heap.size+1) (by omega) (by have:=HA.out.2;omega) 0).2.trans HR.out.2.1;have f1:=(HCC.out (w.heap.size+1) (by omega) (by have:=HA.out.2;omega) 1).2.trans HR.out.2.2))
 have HF:=hide (CE HL.out HA.out.1 (Nat.le_of_eq HA.out.2.symm) (.int .i64 2) (.int .i64 ix))
 go_wp2_with fail
 exact bodyPost_ret (v:=.agg #[.int .i64 2,.int .i64 ix]) (by simp[results,Tryz.results78,go_sem,d0,d1]) rfl ⟨rfl,HF.out⟩
def Jv (x:Wd):Value:=.agg #[.int .i64 x.1,.int .i64 x.2]
def P7 (n:Nat):Prop:=∀(x:Tm n) (base:Nat) (hp:HLoc) (room:Int) (ws:List Wd) (nm:List ByteArray) (M:Nat->Prop) (w:World),HpAt base hp room ws nm M w->In w.heap.size w n x->Off (fun b=>¬M b) n x->base<=w.heap.size->ai ⟨n,x⟩->ws.length+2*(nodes n x).length<=99000->nm.length+(nodes n x).length<=99000->
 Calls Tryz.prog 78 #[.pointer (some ⟨hp.b,hp.o,none⟩),val n x] w fun e w'=>e=.returned (Jv (aB n x ws nm).1)/\Hid (Laid base hp room (aB n x ws nm).2.1 (aB n x ws nm).2.2 M w w')
def LayP (n:Nat) (p:List (Tm n)) (len base:Nat) (hp:HLoc) (room:Int) (ws:List Wd) (nm:List ByteArray) (M:Nat->Prop) (g:Nat) (w wB:World) (k:Nat) (wr:World):Prop:=
 wr.ownsRow g 119 2 (.slice (some ⟨g,0,none⟩) len len) len (az ((aO (aB n) (p.take k) ws nm).1++List.replicate (len-k) (0,0)))/\
 HpAt base hp room (aO (aB n) (p.take k) ws nm).2.1 (aO (aB n) (p.take k) ws nm).2.2 (fun b=>(M b/\b<w.heap.size)∨wB.heap.size<=b) wr/\
 Keep (fun b=>(M b/\b<w.heap.size)∨b=g) wB wr
theorem vG (n:Nat):(madeCells #[.int .i64 0,.int .i64 0] (n*2)).toList=az (List.replicate n (0,0)):=by
 apply List.ext_getElem?
 intro i
 by_cases h:i<n*2
 ·obtain⟨k,j,hj,rfl⟩:∃k j,j<2/\i=k*2+j:=⟨i / 2,i % 2,Nat.mod_lt _ (by decide),by omega⟩
  have hk:k<n:=by omega
  rw[gJ _ k (0,0) (by simp[hk]) j hj]
  have e2:(madeCells #[.int .i64 0,.int .i64 0] (n*2))[k*2+j]? =some ((#[.int .i64 0,.int .i64 0]:Array Value)[(k*2+j) % 2]!):=by
   simp[madeCells,h]
  rw[Array.getElem?_toList,e2,show (k*2+j) % 2=j by omega]
  have:j=0∨j=1:=by omega
  rcases this with rfl|rfl<;>rfl
 ·rw[List.getElem?_eq_none (by simp[size_madeCells];omega),List.getElem?_eq_none (by rw[bf];simp;omega)]
theorem ou:(l:List Wd)->(i:Nat)->(x:Wd)->i<l.length->((az l).set (i*2) (.int .i64 x.1)).set (i*2+1) (.int .i64 x.2)=az (l.set i x)
 | [],i,x,h=>by simp at h
 | y::l,0,x,_=>by simp[az,wd2]
 | y::l,i+1,x,h=>by
  have ih:=ou l i x (by simpa using h)
  have e:az (y::l)=wd2 y++az l:=rfl
  have e':az ((y::l).set (i+1) x)=wd2 y++az (l.set i x):=rfl
  have hy:(wd2 y).length=2:=rfl
  rw[e,e',<-ih]
  rw[List.set_append_right _ _ (by rw[hy];omega),List.set_append_right _ _ (by rw[hy];omega),hy]
  rw[show (i+1)*2-2=i*2 by omega,show (i+1)*2+1-2=i*2+1 by omega]
theorem KM {n:Nat} {p:List (Tm n)} {len base:Nat} {hp:HLoc} {room:Int} {ws:List Wd} {nm:List ByteArray} {M:Nat->Prop} {w w0:World} {t0 t1 t2 t3:Value} (h:HpAt base hp room ws nm M w)
    (ho:w0.ownsRow (w.heap.size+2) 119 2 (.slice (some ⟨((w.alloc (.cells #[t0,t1,t2,t3] 30)).alloc (.cells #[.int .i64 0,.int .i64 0] 119)).heap.size,0,none⟩) len len) len (madeCells (Value.agg #[.int .i64 0,.int .i64 0]).cells (len*2)).toList)
    (hg:((w.alloc (.cells #[t0,t1,t2,t3] 30)).alloc (.cells #[.int .i64 0,.int .i64 0] 119)).grownBy w0 none):
    (LayP n p len base hp room ws nm M (w.heap.size+2) w w0 0 w0/\Below w.heap.size w w0/\w.heap.size+2<w0.heap.size)/\w0.cell? ⟨w.heap.size,3,none⟩=some t3/\
    (w0.cell? ⟨w.heap.size+1,0,none⟩=some (.int .i64 0)/\w0.cell? ⟨w.heap.size+1,1,none⟩=some (.int .i64 0))/\w0.frozen? ⟨w.heap.size+1,0,none⟩=false/\w0.frozen? ⟨w.heap.size+1,1,none⟩=false:=by
 have e:((w.alloc (.cells #[t0,t1,t2,t3] 30)).alloc (.cells #[.int .i64 0,.int .i64 0] 119)).heap.size=w.heap.size+2:=by simp
 rw[e]at ho
 have hb1:Below w.heap.size w ((w.alloc (.cells #[t0,t1,t2,t3] 30)).alloc (.cells #[.int .i64 0,.int .i64 0] 119)):=((Below.refl _ _).alloc (Nat.le_refl _) _).alloc (by simp) _
 have hb2:Below (w.heap.size+2) ((w.alloc (.cells #[t0,t1,t2,t3] 30)).alloc (.cells #[.int .i64 0,.int .i64 0] 119)) w0:=⟨hg.os,hg.tape,hg.output,hg.size,fun b hb=>hg.block b (by omega) (by simp)⟩
 have hb:=hb1.trans (hb2.mono (by omega))
 have hcc:=af hb2
 have hff:=fq hb2
 refine⟨⟨⟨?_, ?_,Keep.refl _ _⟩,hb,(ho.lt _ rfl).2⟩, ?_,⟨?_, ?_⟩, ?_, ?_⟩
 ·simp only[List.take_zero,aO,List.nil_append,Nat.sub_zero]
  have e2:=vG len
  have e3:(Value.agg #[.int .i64 0,.int .i64 0]).cells= #[.int .i64 0,.int .i64 0]:=rfl
  rw[e3,e2]at ho
  exact ho
 ·simp only[List.take_zero,aO]
  exact(h.later hb).mono fun b h=>Or.inl h
 ·rw[hcc _ _ (by omega)];simp[go_sem]
 ·rw[hcc _ _ (by omega)];simp[go_sem]
 ·rw[hcc _ _ (by omega)];simp[go_sem]
 ·rw[hff _ _ (by omega)];simp[go_sem]
 ·rw[hff _ _ (by omega)];simp[go_sem]
theorem mU {w:World} {base g L c:Nat} {ws:List Wd} (h:w.ownsRow base 119 2 (.slice (some ⟨g,0,none⟩) L c) L (az ws)):∀j,w.frozen? ⟨g,j,none⟩=false:=by
 intro j
 rcases h.2 with⟨h2,_⟩|⟨g',cap,cur,hv,hg,hh,_⟩
 ·simp at h2
 ·injection hv with e1 e2 e3
  injection e1 with e1
  injection e1 with e1 _
  subst e1
  simp[World.frozen?,hh]
theorem LayP.step {n:Nat} {p:List (Tm n)} {len base:Nat} {hp:HLoc} {room:Int} {ws:List Wd} {nm:List ByteArray} {M:Nat->Prop} {g:Nat} {w wB:World} {k:Nat} {wr w1 w2:World} (H:LayP n p len base hp room ws nm M g w wB k wr) (hg:w.heap.size<=g) (hgB:g<wB.heap.size) (hk:k<len) (hpl:p.length=len) {x:Tm n} (hx:p[k]? =some x) (hb:Below wr.heap.size wr w1)
    (hL:Laid base hp room (aB n x (aO (aB n) (p.take k) ws nm).2.1 (aO (aB n) (p.take k) ws nm).2.2).2.1 (aB n x (aO (aB n) (p.take k) ws nm).2.1 (aO (aB n) (p.take k) ws nm).2.2).2.2 (fun b=>((M b/\b<w.heap.size)∨wB.heap.size<=b)/\b<wr.heap.size) w1 w2):
    LayP n p len base hp room ws nm M g w wB (k+1) ((w2.setCell ⟨g,k*2,none⟩ (.int .i64 (aB n x (aO (aB n) (p.take k) ws nm).2.1 (aO (aB n) (p.take k) ws nm).2.2).1.1)).setCell ⟨g,k*2+1,none⟩ (.int .i64 (aB n x (aO (aB n) (p.take k) ws nm).2.1 (aO (aB n) (p.take k) ws nm).2.2).1.2))/\
    (w2.cell? ⟨g,k*2,none⟩=some (.int .i64 0)/\w2.cell? ⟨g,k*2+1,none⟩=some (.int .i64 0))/\w2.frozen? ⟨g,k*2,none⟩=false/\w2.frozen? ⟨g,k*2+1,none⟩=false:=by
 obtain⟨H1,H2,H3⟩:=H
 obtain⟨L1,L2⟩:=hL
 have hgr:g<wr.heap.size:=(H1.lt g rfl).2
 have hs1:=hb.size
 have hs3:=H3.size
 have e0:aO (aB n) (p.take (k+1)) ws nm=((aO (aB n) (p.take k) ws nm).1++ [(aB n x (aO (aB n) (p.take k) ws nm).2.1 (aO (aB n) (p.take k) ws nm).2.2).1],(aB n x (aO (aB n) (p.take k) ws nm).2.1 (aO (aB n) (p.take k) ws nm).2.2).2):=by
  rw[List.take_add_one,hx]
  exact Ir _ _ _ _ _
 have hl:(aO (aB n) (p.take k) ws nm).1.length=k:=by rw[fD,List.length_take];omega
 have r2:w2.ownsRow g 119 2 (.slice (some ⟨g,0,none⟩) len len) len (az ((aO (aB n) (p.take k) ws nm).1++List.replicate (len-k) (0,0))):=by
  refine di (own_below H1 hb) L2 fun b e=> ?_
  simp only[Value.ownBlock]at e
  obtain rfl:=Option.some.inj e
  omega
 generalize aO (aB n) (p.take k) ws nm=R at*
 generalize aB n x R.2.1 R.2.2=Y at*
 have hz:(R.1++List.replicate (len-k) (0,0))[k]? =some ((0,0):Wd):=by
  rw[List.getElem?_append_right (by omega),hl,Nat.sub_self,List.getElem?_replicate]
  simp;omega
 have k1:=aI w2 g (k*2) (.int .i64 Y.1.1)
 have k2:=aI (w2.setCell ⟨g,k*2,none⟩ (.int .i64 Y.1.1)) g (k*2+1) (.int .i64 Y.1.2)
 have k3:=k1.trans k2 (fun b _ h=>h)
 refine⟨⟨?_, ?_, ?_⟩,gM r2 k (0,0) hz,mU r2 _,mU r2 _⟩
 ·rw[e0]
  have hh:=iI (iI r2 (k*2) (.int .i64 Y.1.1)) (k*2+1) (.int .i64 Y.1.2)
  rw[ou _ k Y.1 (by simp;omega)]at hh
  have es:(R.1++List.replicate (len-k) ((0,0):Wd)).set k Y.1=(R.1++ [Y.1])++List.replicate (len-(k+1)) (0,0):=by
   rw[List.set_append_right _ _ (by omega)]
   have:len-k=(len-(k+1))+1:=by omega
   rw[this,List.replicate_succ]
   simp[hl]
  rw[es]at hh
  exact hh
 ·rw[e0]
  refine(L1.kept k3 ?_).mono ?_
  ·rintro b (⟨h,_⟩|h) _ e<;>omega
  ·rintro b (⟨h,_⟩|h)
   ·exact h
   ·exact Or.inr (by omega)
 ·have h1:Keep (fun b=>(M b/\b<w.heap.size)∨b=g) wB w1:=H3.trans (aD hb (fun _=>False)) (fun _ _ h=>h.elim)
  have h2:Keep (fun b=>(M b/\b<w.heap.size)∨b=g) wB w2:=h1.trans L2 (fun b hb' h=>by
   rcases h.1 with h|h
   ·exact Or.inl h
   ·omega)
  exact h2.trans k3 (fun b _ h=>Or.inr h)
theorem Lf {n:Nat} {p:List (Tm n)} {len base:Nat} {hp:HLoc} {room:Int} {ws:List Wd} {nm:List ByteArray} {M:Nat->Prop} {g:Nat} {w wB:World} {k:Nat} {wr:World} (H:LayP n p len base hp room ws nm M g w wB k wr) (hg:w.heap.size<g) (hgB:g<wB.heap.size) (hB:Below w.heap.size w wB) {b o:Nat} (hb:b<w.heap.size) (hm:¬M b) {x:Tm n} (h1:Held w b o n x) (h2:In w.heap.size w n x) (h3:Off (fun b=>¬M b) n x):
    Held wr b o n x/\In w.heap.size wr n x/\Off (fun b=>¬(((M b/\b<w.heap.size)∨wB.heap.size<=b)/\b<wr.heap.size)) n x:=by
 have hkeep:∀q,¬M q/\q<w.heap.size->wr.heap[q]? =wB.heap[q]? :=fun q hq=>H.2.2.block q (by omega) (by rintro (h|h);exact hq.1 h.1;omega)
 refine⟨(h1.below hB hb).block (hkeep b ⟨hm,hb⟩),In.off hkeep (In.offB h3 h2) (h2.below hB),(In.offB h3 h2).mono ?_⟩
 rintro q ⟨hq1,hq2⟩ ⟨h|h,_⟩
 ·exact hq1 h.1
 ·omega
theorem J8 {n:Nat} {p:List (Tm n)} {len base:Nat} {hp:HLoc} {room:Int} {ws:List Wd} {nm:List ByteArray} {M:Nat->Prop} {g:Nat} {w wB:World} {wr:World} (H:LayP n p len base hp room ws nm M g w wB len wr) (hpl:p.length=len) (hg:g=w.heap.size+2) (hgB:g<wB.heap.size) (hB:Below w.heap.size w wB):
    HpAt base hp room (aO (aB n) p ws nm).2.1 (aO (aB n) p ws nm).2.2 (fun b=>((M b/\b<w.heap.size)∨wB.heap.size<=b)) wr/\(∀w1,Keep (fun b=>((M b/\b<w.heap.size)∨wB.heap.size<=b)) wr w1->dO w1 (aO (aB n) p ws nm).1 (some ⟨g,0,none⟩))/\
    (∀o,wr.cell? ⟨w.heap.size+1,o,none⟩=wB.cell? ⟨w.heap.size+1,o,none⟩/\wr.frozen? ⟨w.heap.size+1,o,none⟩=wB.frozen? ⟨w.heap.size+1,o,none⟩)/\
    ∀ws' nm' w2,Laid base hp room ws' nm' (fun b=>((M b/\b<w.heap.size)∨wB.heap.size<=b)) wr w2->
     (∀o,w2.cell? ⟨w.heap.size+1,o,none⟩=wr.cell? ⟨w.heap.size+1,o,none⟩/\w2.frozen? ⟨w.heap.size+1,o,none⟩=wr.frozen? ⟨w.heap.size+1,o,none⟩)/\
     ∀v0 v1,Laid base hp room ws' nm' M w ((w2.setCell ⟨w.heap.size+1,0,none⟩ v0).setCell ⟨w.heap.size+1,1,none⟩ v1):=by
 obtain⟨H1,H2,H3⟩:=H
 rw[List.take_of_length_le (by omega)]at H1 H2
 rw[Nat.sub_self,List.replicate_zero,List.append_nil]at H1
 have hs3:=H3.size
 refine⟨H2,fun w1 hk=>Or.inr ⟨_,rfl,fun j u hj=> ?_⟩,fun o=> ?_,fun ws' nm' w2 hL=>⟨fun o=> ?_,fun v0 v1=> ?_⟩⟩
 ·have:=(di H1 hk (fun b e=>by
    simp only[Value.ownBlock]at e
    obtain rfl:=Option.some.inj e
    omega)).cells (g:=g) rfl j u hj
  exact this
 ·have e:=H3.block (w.heap.size+1) (by omega) (by omega)
  exact⟨aK e o,World.frozen?_of_block (a:=⟨w.heap.size+1,o,none⟩) e⟩
 ·have e:=hL.2.block (w.heap.size+1) (by omega) (by omega)
  exact⟨aK e o,World.frozen?_of_block (a:=⟨w.heap.size+1,o,none⟩) e⟩
 ·obtain⟨L1,L2⟩:=hL
  have k1:=aI w2 (w.heap.size+1) 0 v0
  have k2:=aI (w2.setCell ⟨w.heap.size+1,0,none⟩ v0) (w.heap.size+1) 1 v1
  have k3:=k1.trans k2 (fun b _ h=>h)
  refine⟨(L1.kept k3 ?_).mono ?_, ?_⟩
  ·rintro b (h|h) _ e<;>omega
  ·rintro b ((h|h)|h)
   ·exact Or.inl h.1
   ·exact Or.inr (by omega)
   ·exact Or.inr (by omega)
  ·refine(((aD hB M).trans H3 ?_).trans L2 ?_).trans k3 ?_
   ·rintro b hb (h|h)
    ·exact h.1
    ·omega
   ·rintro b hb (h|h)
    ·exact h.1
    ·have:=hB.size;omega
   ·intro b hb h
    omega
theorem vw (n:Nat) (l:List (Tm n)) (ws:List Wd) (nm:List ByteArray):(aO (aB n) l ws nm).2.1.length<=ws.length+2*(l.flatMap fun y=>nodes n y).length/\(aO (aB n) l ws nm).2.2.length<=nm.length+(l.flatMap fun y=>nodes n y).length:=by
 induction l generalizing ws nm with
 | nil=>simp[aO]
 | cons y l ih=>
  obtain⟨a1,a2⟩:=gG n y ws nm
  obtain⟨b1,b2⟩:=ih (aB n y ws nm).2.1 (aB n y ws nm).2.2
  have c:=(dI n y).2
  simp only[aO,List.flatMap_cons,List.length_append]
  exact⟨by omega,by omega⟩
theorem Bp (n:Nat) (p:List (Tm n)) (k:Nat) (x:Tm n) (hx:p[k]? =some x):((p.take k).flatMap fun y=>nodes n y).length+(nodes n x).length<=(p.flatMap fun y=>nodes n y).length:=by
 have h:=List.getElem?_eq_some_iff.1 hx
 obtain⟨hl,rfl⟩:=h
 have e:p=p.take k++p[k]::p.drop (k+1):=by
  rw[<-List.drop_eq_getElem_cons hl,List.take_append_drop]
 conv=>rhs;rw[e]
 simp only[List.flatMap_append,List.flatMap_cons,List.length_append]
 omega
theorem Ns (n:Nat) (ih:P7 n) (base:Nat) (hp:HLoc) (room:Int) (ws:List Wd) (nm:List ByteArray) (M:Nat->Prop) (u:Int) (s:ByteArray) (a:Option Addr) (len pc:Nat) (p:List (Tm n)) (hpl:Hid (p.length=len)) (w:World) (h:Hid (HpAt base hp room ws nm M w)) (hlen:len<=8) (hbw:base<=w.heap.size)
    (hpp:Hid (p=[]∨∃b o,a=some ⟨b,o,none⟩/\b<w.heap.size/\¬M b/\∀(i:Nat) (y:Tm n),p[i]? =some y->Held w b (o+i*4) n y/\In w.heap.size w n y/\Off (fun b=>¬M b) n y))
    (hr:Hid (∀y∈p,ai ⟨n,y⟩)) (hw:Hid (ws.length+2*(p.flatMap fun y=>nodes n y).length<=99000)) (hn:Hid (nm.length+(p.flatMap fun y=>nodes n y).length<=99000)):
    Calls Tryz.prog 78 #[.pointer (some ⟨hp.b,hp.o,none⟩),.agg #[.int .i64 4,.int .i64 u,.string s,.slice a len pc]] w fun e w'=>e=.returned (Jv (4,((aO (aB n) p ws nm).2.1.length:Int)))/\Hid (Laid base hp room ((aO (aB n) p ws nm).2.1++(0,(len:Int))::(aO (aB n) p ws nm).1) (aO (aB n) p ws nm).2.2 M w w'):=by
 obtain⟨it,hit,htz0,htz1,htz2⟩:=info_parts jJ
 go_enter Tryz.func78,Tryz.ntmps78
 go_wp2_with (at_make;refine wpList_make_full _ rfl _ _ 123 rfl (w.heap.size+2) 119 it _ 2 Tryz.underlying123 hit htz0 htz1 _ _ _ _ len rfl rfl rfl rfl (by rw[htz2];omega) (by unfold maxLen;omega) (by simp) ?_;intro w0 hown0 hgrow0;have HM:=hide (KM (p:=p) h.out hown0 hgrow0);have c3:=HM.out.2.1;clear hown0 hgrow0)
 clear hit htz0 htz1 htz2
 obtain⟨g,hg⟩:∃g,w.heap.size+1+1=g:=⟨_,rfl⟩
 have HLP:Hid (LayP n p len base hp room ws nm M g w w0 0 w0):=by subst hg;exact HM.out.1.1
 have hgB:g<w0.heap.size:=by subst hg;exact HM.out.1.2.2
 rw[hg]
 go_loopw [28] (fun i wr=>∃k:Nat,k<=len/\i=.int .i64 k/\Hid (LayP n p len base hp room ws nm M g w w0 k wr)) (fun i _=>len-(intOf i).toNat)
 case atStart=>exact⟨0,by omega,rfl,HLP.out⟩
 case round=>
  clear HLP
  obtain⟨k,hk,rfl,HL⟩:=hrel
  by_cases hlt:k<len
  ·obtain⟨x,hx⟩:∃x,p[k]? =some x:=⟨p[k]'(by rw[hpl.out];exact hlt),List.getElem?_eq_getElem _⟩
   obtain⟨b,o,rfl,hb,hm,hpp2⟩:∃b o,a=some ⟨b,o,none⟩/\b<w.heap.size/\¬M b/\∀(i:Nat) (y:Tm n),p[i]? =some y->Held w b (o+i*4) n y/\In w.heap.size w n y/\Off (fun b=>¬M b) n y:=by
    rcases hpp.out with e|e
    ·rw[e]at hx;simp at hx
    ·exact e
   obtain⟨hx1,hx2,hx3⟩:=hpp2 k x hx
   obtain⟨y1,y2,y3⟩:=Lf HL.out (by omega) hgB HM.out.1.2.1 hb hm hx1 hx2 hx3
   have hgr:g<wr.heap.size:=(HL.out.1.lt g rfl).2
   have hw0:=HL.out.2.2.size
   cases n with
   | zero=>exact y1.elim
   | succ n=>
   obtain⟨V,HC⟩:∃V:Wd,Hid (∀w1,Below wr.heap.size wr w1->Calls Tryz.prog 78 #[.pointer (some ⟨hp.b,hp.o,none⟩),.agg #[.int .i64 x.1.1,.int .i64 x.1.2.1,.string x.1.2.2,.slice x.2.1.1 x.2.2.length x.2.1.2]] w1 fun e w2=>e=.returned (.agg #[.int .i64 V.1,.int .i64 V.2])/\
       Hid (LayP (n+1) p len base hp room ws nm M g w w0 (k+1) ((w2.setCell ⟨g,k*2,none⟩ (.int .i64 V.1)).setCell ⟨g,k*2+1,none⟩ (.int .i64 V.2))/\
        (w2.cell? ⟨g,k*2,none⟩=some (.int .i64 0)/\w2.cell? ⟨g,k*2+1,none⟩=some (.int .i64 0))/\w2.frozen? ⟨g,k*2,none⟩=false/\w2.frozen? ⟨g,k*2+1,none⟩=false)):=by
    refine⟨(aB (n+1) x (aO (aB (n+1)) (p.take k) ws nm).2.1 (aO (aB (n+1)) (p.take k) ws nm).2.2).1,fun w1 h1=> ?_⟩
    have hz:=vw (n+1) (p.take k) ws nm
    have hzz:=Bp (n+1) p k x hx
    have hw':=hw.out
    have hn':=hn.out
    have hs1:=h1.size
    refine(ih x base hp room _ _ _ w1 (HL.out.2.1.later h1) ((y2.below (h1.mono (by omega))).mono (by omega)) y3 (by omega) (hr.out x (List.mem_of_getElem? hx)) (by omega) (by omega)).mono ?_
    rintro e w2 ⟨rfl,HLD⟩
    exact⟨rfl,HL.out.step (by omega) hgB hlt hpl.out hx h1 HLD.out⟩
   obtain⟨x0,x1,x2,x3⟩:=y1
   clear ih HL hpp hpp2 hx1 hx2 hx3 y2 y3 hx hm hw hn hr
   generalize x.2.2.length=xl at*
   have hk1:(0:Int)<=(k:Int):=by omega
   have hk2:(k:Int)<(len:Int):=by omega
   have hbr:b<wr.heap.size:=by omega
   go_wp2_with fail
   refine(HC.out _ ((Below.refl _ _).alloc (Nat.le_refl _) _)).mono ?_
   rintro e w2 ⟨rfl,HS⟩
   obtain⟨⟨d0,d1⟩,f0,f1⟩:=HS.out.2
   clear HC x0 x1 x2 x3
   go_wp2_with fail
   go_roundw
   case rel=>exact⟨k+1,by omega,by go_num,HS.out.1⟩
   case measure=>simp[intOf];omega
  ·obtain rfl:k=len:=by omega
   have HE:=hide (J8 HL.out hpl.out hg.symm hgB HM.out.1.2.1)
   have HC:Hid (Calls Tryz.prog 97 #[.pointer (some ⟨hp.b,hp.o+1,none⟩),.slice (some ⟨g,0,none⟩) k k] wr fun e w'=>e=.returned (.agg #[.int .i64 4,.int .i64 (aO (aB n) p ws nm).2.1.length])/\Hid (Laid base hp room ((aO (aB n) p ws nm).2.1++(0,(k:Int))::(aO (aB n) p ws nm).1) (aO (aB n) p ws nm).2.2 _ wr w')):=
    QS base hp room (aO (aB n) p ws nm).2.1 (aO (aB n) p ws nm).2.2 _ (aO (aB n) p ws nm).1 k k (some ⟨g,0,none⟩) wr HE.out.1 (by have:=HL.out.2.2.size;omega) (by have:=(vw n p ws nm).1;have:=hw.out;omega) (by rw[fD];exact hpl.out) (by omega) HE.out.2.1
   have HR:=HM.out.2.2
   clear HL HM ih hpp
   go_wp2_with fail
   refine HC.out.mono ?_
   rintro e w2 ⟨rfl,HLD⟩
   have HF:=hide (HE.out.2.2.2 _ _ w2 HLD.out)
   have d0:=((HF.out.1 0).1.trans (HE.out.2.2.1 0).1).trans HR.1.1
   have d1:=((HF.out.1 1).1.trans (HE.out.2.2.1 1).1).trans HR.1.2
   have f0:=((HF.out.1 0).2.trans (HE.out.2.2.1 0).2).trans HR.2.1
   have f1:=((HF.out.1 1).2.trans (HE.out.2.2.1 1).2).trans HR.2.2
   clear HC HE HLD HR
   go_wp2_with fail
   exact bodyPost_ret (v:=.agg #[.int .i64 4,.int .i64 ((aO (aB n) p ws nm).2.1.length:Int)]) (by simp[results,Tryz.results78,go_sem,d0,d1]) rfl ⟨rfl,HF.out.2 _ _⟩
theorem I4 {base:Nat} {hp:HLoc} {room:Int} {ws:List Wd} {nm:List ByteArray} {M:Nat->Prop} {w w':World} (h:HpAt base hp room ws nm M w) (hb:Below w.heap.size w w'):Laid base hp room ws nm M w w':=
 ⟨(h.later hb).mono fun _ h=>Or.inl h.1,aD hb M⟩
theorem Oc (n:Nat):P7 n:=by
 induction n with
 | zero=>intro x base hp room ws nm M w _ hx;exact hx.elim
 | succ n ih=>
  intro x base hp room ws nm M w h hx ho hbw hr hw hn
  have hx2:=hx
  obtain⟨⟨x1,x2,hsz,hpl,hpc⟩,hp2⟩:=hx2
  have hg:=hr (aL n x) (by simp[nodes,aL])
  have hlen:x.2.2.length<=8:=ky (aL n x) hg
  have hname:x.1.2.2.size<=2048:=by have:=rF (aL n x) hg;simp only[aL]at this;omega
  have hnodes:(nodes (n+1) x).length=1+(x.2.2.flatMap fun y=>nodes n y).length:=by simp[nodes];omega
  by_cases h2:x.1.1=2
  ·have e:aB (n+1) x ws nm=((2,(jF (dE nm x.1.2.2) x.1.2.2:Int)),ws,dE nm x.1.2.2):=by simp only[aB,if_pos h2]
   rw[e]
   have hc:=KR base hp room ws nm M x.1.2.1 x.1.2.2 x.2.1.1 x.2.2.length x.2.1.2 w h hbw (by omega) hname
   rw[<-h2]at hc
   refine hc.mono ?_
   rintro e w' ⟨rfl,H⟩
   exact⟨by rw[h2];rfl,H⟩
  ·by_cases h4:x.1.1=4
   ·have e:aB (n+1) x ws nm=((4,((aO (aB n) x.2.2 ws nm).2.1.length:Int)),(aO (aB n) x.2.2 ws nm).2.1++(0,(x.2.2.length:Int))::(aO (aB n) x.2.2 ws nm).1,(aO (aB n) x.2.2 ws nm).2.2):=by simp only[aB,if_neg h2,if_pos h4]
    rw[e]
    have hc:=Ns n ih base hp room ws nm M x.1.2.1 x.1.2.2 x.2.1.1 x.2.2.length x.2.1.2 x.2.2 rfl w h hlen hbw ?_ (fun y hy=>aH n x y hr hy) (by unfold Hid;omega) (by unfold Hid;omega)
    ·rw[<-h4]at hc
     refine hc.mono ?_
     rintro e w' ⟨rfl,H⟩
     exact⟨by rw[h4],H⟩
    ·rcases hp2 with hp2|⟨b,o,e,hb,hp2⟩
     ·exact Or.inl hp2
     ·rcases ho with ho|⟨b',o',e',hb',ho⟩
      ·exact Or.inl ho
      ·rw[e]at e'
       injection e' with e'
       injection e' with e1 e2
       subst e1 e2
       exact Or.inr ⟨b,o,e,hb,hb',fun i y hy=>⟨(hp2 i y hy).1,(hp2 i y hy).2,ho i y hy⟩⟩
   ·have e:aB (n+1) x ws nm=((x.1.1,x.1.2.1),ws,nm):=by simp only[aB,if_neg h2,if_neg h4]
    rw[e]
    refine(LV hp x.1.1 x.1.2.1 x.1.2.2 x.2.1.1 x.2.2.length x.2.1.2 w h2 h4).mono ?_
    rintro e w' ⟨rfl,hb⟩
    exact⟨rfl,I4 h hb⟩
end Go.Proofs.YtmbjgiaebneodaaGreat
