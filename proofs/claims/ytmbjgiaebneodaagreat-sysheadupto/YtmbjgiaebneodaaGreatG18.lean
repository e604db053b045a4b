/- What is proved here: plain facts and contracts that the claimed theorem stands on. No condition but those that each names. -/
import Derived.Test.YtmbjgiaebneodaaGreatG17
namespace Go.Proofs.YtmbjgiaebneodaaGreat
open Go.RowKit
open Go.RowKit Go.Maps
set_option maxHeartbeats 1000000
set_option maxRecDepth 100000
theorem Ec {α:Type} {l l':List α} (h:l <+:l') {i:Nat} {x:α} (hx:l[i]? =some x):l'[i]? =some x:=by
 obtain⟨r,rfl⟩:=h
 rw[List.getElem?_append_left (List.getElem?_eq_some_iff.1 hx).1]
 exact hx
theorem Stands.mono {ws ws':List Wd} {nm nm':List ByteArray} (h1:ws <+:ws') (h2:nm <+:nm'):{n:Nat}->{x:Tm n}->{v:Wd}->Stands ws nm n x v->Stands ws' nm' n x v
 | 0,_,_,h=>h
 | n+1,x,v,h=>by
  obtain⟨a,b,c⟩:=h
  refine⟨fun e=> ?_,fun e=> ?_,c⟩
  ·obtain⟨i,e1,e2⟩:=a e
   exact⟨i,e1,Ec h2 e2⟩
  ·obtain⟨p,e1,e2,e3,e4⟩:=b e
   refine⟨p,e1,Ec h1 e2,Nat.le_trans e3 h1.length_le,fun i y hy=> ?_⟩
   obtain⟨u,e5,e6⟩:=e4 i y hy
   exact⟨u,Ec h1 e5,e6.mono h1 h2⟩
theorem Jf (nm:List ByteArray) (s:ByteArray):nm <+:dE nm s:=by
 unfold dE
 split
 ·exact List.prefix_refl _
 ·exact List.prefix_append _ _
theorem pY {n:Nat} (h:∀(x:Tm n) (ws:List Wd) (nm:List ByteArray),ws <+:(aB n x ws nm).2.1/\nm <+:(aB n x ws nm).2.2) (l:List (Tm n)) (ws:List Wd) (nm:List ByteArray):ws <+:(aO (aB n) l ws nm).2.1/\nm <+:(aO (aB n) l ws nm).2.2:=by
 induction l generalizing ws nm with
 | nil=>exact⟨List.prefix_refl _,List.prefix_refl _⟩
 | cons y l ih=>
  obtain⟨a,b⟩:=h y ws nm
  obtain⟨c,d⟩:=ih (aB n y ws nm).2.1 (aB n y ws nm).2.2
  exact⟨a.trans c,b.trans d⟩
theorem kD:(n:Nat)->(x:Tm n)->(ws:List Wd)->(nm:List ByteArray)->ws <+:(aB n x ws nm).2.1/\nm <+:(aB n x ws nm).2.2
 | 0,_,_,_=>⟨List.prefix_refl _,List.prefix_refl _⟩
 | n+1,x,ws,nm=>by
  by_cases h2:x.1.1=2
  ·simp only[aB,if_pos h2]
   exact⟨List.prefix_refl _,Jf _ _⟩
  ·by_cases h4:x.1.1=4
   ·simp only[aB,if_neg h2,if_pos h4]
    obtain⟨a,b⟩:=pY (kD n) x.2.2 ws nm
    exact⟨a.trans (List.prefix_append _ _),b⟩
   ·simp only[aB,if_neg h2,if_neg h4]
    exact⟨List.prefix_refl _,List.prefix_refl _⟩
theorem J6 (nm:List ByteArray) (s:ByteArray):(dE nm s)[jF (dE nm s) s]? =some s:=by
 have hm:s∈dE nm s:=by
  unfold dE
  split
  ·rename_i h
   exact(Ae nm s).1 h
  ·simp
 have hlt:jF (dE nm s) s<(dE nm s).length:=by
  unfold jF
  rw[List.findIdx_lt_length]
  exact⟨s,hm,(nz s s).2 rfl⟩
 have he:(dE nm s)[jF (dE nm s) s]'hlt=s:=(nz s _).1 (List.findIdx_getElem (w:=hlt))
 rw[List.getElem?_eq_getElem hlt,he]
theorem lW {n:Nat} (h:∀(x:Tm n) (ws:List Wd) (nm:List ByteArray),ai ⟨n,x⟩->Stands (aB n x ws nm).2.1 (aB n x ws nm).2.2 n x (aB n x ws nm).1) (l:List (Tm n)) (ws:List Wd) (nm:List ByteArray) (hr:∀y∈l,ai ⟨n,y⟩):
    ∀(i:Nat) (y:Tm n),l[i]? =some y->∃u,(aO (aB n) l ws nm).1[i]? =some u/\Stands (aO (aB n) l ws nm).2.1 (aO (aB n) l ws nm).2.2 n y u:=by
 induction l generalizing ws nm with
 | nil=>intro i y hy;simp at hy
 | cons z l ih=>
  intro i y hy
  cases i with
  | zero=>
   simp at hy
   subst hy
   obtain⟨a,b⟩:=pY (kD n) l (aB n z ws nm).2.1 (aB n z ws nm).2.2
   exact⟨(aB n z ws nm).1,rfl,(h z ws nm (hr z (by simp))).mono a b⟩
  | succ i=>
   obtain⟨u,e1,e2⟩:=ih (aB n z ws nm).2.1 (aB n z ws nm).2.2 (fun y hy=>hr y (by simp[hy])) i y (by simpa using hy)
   exact⟨u,by simpa [aO]using e1,e2⟩
theorem fK:(n:Nat)->(x:Tm n)->(ws:List Wd)->(nm:List ByteArray)->ai ⟨n,x⟩->Stands (aB n x ws nm).2.1 (aB n x ws nm).2.2 n x (aB n x ws nm).1
 | 0,_,_,_,h=>(bQ h).elim
 | n+1,x,ws,nm,h=>by
  by_cases h2:x.1.1=2
  ·have h4:¬x.1.1=4:=by omega
   simp only[aB,if_pos h2]
   exact⟨fun _=>⟨_,rfl,J6 _ _⟩,fun e=>absurd e h4,fun e=>absurd h2 e⟩
  ·by_cases h4:x.1.1=4
   ·simp only[aB,if_neg h2,if_pos h4]
    have hl:=fD (aB n) x.2.2 ws nm
    refine⟨fun e=>absurd e h2,fun _=>⟨_,rfl, ?_, ?_,fun i y hy=> ?_⟩,fun _ e=>absurd h4 e⟩
    ·rw[List.getElem?_append_right (Nat.le_refl _),Nat.sub_self]
     rfl
    ·simp only[List.length_append,List.length_cons,hl]
     omega
    ·obtain⟨u,e1,e2⟩:=lW (fK n) x.2.2 ws nm (fun y hy=>aH n x y h hy) i y hy
     refine⟨u, ?_,e2.mono (List.prefix_append _ _) (List.prefix_refl _)⟩
     rw[List.getElem?_append_right (by omega)]
     have:(aO (aB n) x.2.2 ws nm).2.1.length+1+i-(aO (aB n) x.2.2 ws nm).2.1.length=i+1:=by omega
     rw[this]
     simpa using e1
   ·simp only[aB,if_neg h2,if_neg h4]
    exact⟨fun e=>absurd e h2,fun e=>absurd e h4,fun _ _=>rfl⟩
def JBox (q:Nat) (w:World):Prop:=w.heap[q]? =some (.cells #[.int .i64 0,.int .i64 0] 119)
theorem JBox.facts {q:Nat} {w:World} (h:JBox q w):(w.cell? ⟨q,0,none⟩=some (.int .i64 0)/\w.cell? ⟨q,1,none⟩=some (.int .i64 0))/\w.frozen? ⟨q,0,none⟩=false/\w.frozen? ⟨q,1,none⟩=false:=by
 unfold JBox at h
 refine⟨⟨?_, ?_⟩, ?_, ?_⟩
 all_goals simp[World.cell?,World.frozen?,h]
theorem AP {ws:List Wd} {nm:List ByteArray} {n:Nat} {x:Tm n} {v:Wd} (h:Stands ws nm n x v) (hr:ai ⟨n,x⟩) (hc:av n x=true) (hw:ws.length<=100000) (hn:nm.length<=100000):bu ws nm v=true/\bR v.2:=by
 cases n with
 | zero=>exact h.elim
 | succ n=>
 have hg:=hr (aL n x) (by simp[nodes,aL])
 have hk:=jr (aL n x) hg
 simp only[aL]at hk
 simp only[av,Bool.and_eq_true,Bool.not_eq_true',beq_eq_false_iff_ne]at hc
 obtain⟨a,b,c⟩:=h
 by_cases h2:x.1.1=2
 ·obtain⟨i,rfl,hi⟩:=a h2
  have hl:=(List.getElem?_eq_some_iff.1 hi).1
  refine⟨?_, ?_⟩
  ·simp[bu,hasB,hl]
  ·unfold bR;show (-9223372036854775808:Int)<=(i:Int)/\(i:Int)<=9223372036854775807;omega
 ·by_cases h4:x.1.1=4
  ·obtain⟨p,rfl,hp,hl,_⟩:=b h4
   refine⟨?_, ?_⟩
   ·simp[bu,eF,hp]
   ·unfold bR;show (-9223372036854775808:Int)<=(p:Int)/\(p:Int)<=9223372036854775807;omega
  ·obtain rfl:=c h2 h4
   refine⟨?_,(uM _ hg).2⟩
   have h13:x.1.1=1∨x.1.1=3:=by
    rcases hk with g|g|g|g|g|g
    ·exact Or.inl g
    ·exact absurd g h2
    ·exact Or.inr g
    ·exact absurd g h4
    ·exact absurd g hc.1.1
    ·exact absurd g.1 hc.1.2
   unfold good at hg
   simp only[aL]at hg
   rcases h13 with g|g
   ·simp[bu,g]at hg ⊢
    exact hg.1.2
   ·simp[bu,g]at hg ⊢
    exact hg.1.2
theorem Kz (n:Nat) (x:Tm n) (v:Wd) (base:Nat) (hp:HLoc) (room:Int) (ws:List Wd) (nm:List ByteArray) (M:Nat->Prop) (w:World) (h:HpAt base hp room ws nm M w) (hs:Stands ws nm n x v) (hr:ai ⟨n,x⟩) (hc:av n x=true) (hw:ws.length<=100000) (hn:nm.length<=100000):
    Calls Tryz.prog 80 #[.pointer (some ⟨hp.b,hp.o,none⟩),Jv v] w fun e w'=>∃y:Tm n,e=.returned (.tuple #[val n y,.int .i64 0])/\Hid (Below w.heap.size w w'/\In w'.heap.size w' n y/\Off (fun q=>w.heap.size<=q) n y/\same n y n x=true):=by
 cases n with
 | zero=>exact hs.elim
 | succ n=>
 obtain⟨hb,hi⟩:=AP hs hr hc hw hn
 refine Px n x hp v.1 v.2 w ?_ ?_
 ·intro w1 h1
  have k:=uH base hp room ws nm _ v w1 (h.later h1) hw hi
  rw[hb]at k
  exact k
 ·exact fun w1 h1=>Lx (n+1) x v base hp room ws nm _ w1 (h.later h1) hw hn hs hr
abbrev bI:=List (Nat×Nat)
def look (g:bI) (p:Nat):Option Nat:=(g.find? fun e=>e.1==p).map fun e=>e.2
theorem rE (g:bI) (p q:Nat):look ((p,q)::g) p=some q:=by simp[look]
theorem oN (g:bI) {p r:Nat} (q:Nat) (h:r≠p):look ((p,q)::g) r=look g r:=by
 have:(p==r)=false:=by simp;omega
 simp[look,this]
def fC (f:Wd->List Wd×bI->Wd×List Wd×bI):List Wd->List Wd×bI->List Wd×List Wd×bI
 | [],S=>([],S)
 | v::l,S=>((f v S).1::(fC f l (f v S).2).1,(fC f l (f v S).2).2)
def iO (ws:List Wd):Nat->Wd->List Wd×bI->Wd×List Wd×bI
 | 0,v,S=>(v,S)
 | n+1,v,S=>
  if v.1=4 then
   match look S.2 v.2.toNat with
   | some q=>((4,(q:Int)),S)
   | none=>
    match ws[v.2.toNat]? with
    | some h=>((4,((fC (iO ws n) ((ws.drop (v.2.toNat+1)).take h.2.toNat) S).2.1.length:Int)),(fC (iO ws n) ((ws.drop (v.2.toNat+1)).take h.2.toNat) S).2.1++(0,h.2)::(fC (iO ws n) ((ws.drop (v.2.toNat+1)).take h.2.toNat) S).1,(v.2.toNat,(fC (iO ws n) ((ws.drop (v.2.toNat+1)).take h.2.toNat) S).2.1.length)::(fC (iO ws n) ((ws.drop (v.2.toNat+1)).take h.2.toNat) S).2.2)
    | none=>(v,S)
  else (v,S)
theorem JG (f:Wd->List Wd×bI->Wd×List Wd×bI) (l:List Wd) (v:Wd) (S:List Wd×bI):fC f (l++ [v]) S=((fC f l S).1++ [(f v (fC f l S).2).1],(f v (fC f l S).2).2):=by
 induction l generalizing S with
 | nil=>simp[fC]
 | cons a l ih=>simp[fC,ih]
theorem oQ (f:Wd->List Wd×bI->Wd×List Wd×bI) (l:List Wd) (S:List Wd×bI):(fC f l S).1.length=l.length:=by
 induction l generalizing S with
 | nil=>simp[fC]
 | cons a l ih=>simp[fC,ih]
def vI (D:DataW Unit) (g:bI):Prop:=∀p:Nat,(Maps.has D (.int .i64 p)=true ↔ (look g p).isSome=true)/\∀q:Nat,look g p=some q->D.atKey (.int .i64 p) (.lit (.int .i64 0))=.lit (.int .i64 q)
theorem Lu:vI (.map []) []:=fun p=>⟨by simp[Maps.has,look],fun q h=>by simp[look]at h⟩
theorem Gf (k:Int):WideAt.IsKeyLit (.int .i64 k):=by first|trivial|simp[WideAt.IsKeyLit]|decide
theorem JX {w:World} {mb L:Nat} {D:DataW Unit} {g:bI} (hm:w.ownsMap Tryz.prog 3 (plainElem Tryz.prog 3) mb L D) (h:vI D g) (p q:Nat):vI (D.put (.int .i64 p) (.lit (.int .i64 q))) ((p,q)::g):=by
 intro r
 by_cases hr:r=p
 ·subst hr
  refine⟨?_,fun q' hq=> ?_⟩
  ·rw[has_put_same hm.isMap (Gf _),rE]
   simp
  ·rw[rE]at hq
   rw[atKey_put_same hm.isMap (Gf _),Option.some.inj hq]
 ·have hne:(Lit.int .i64 (r:Int))≠(Lit.int .i64 (p:Int)):=fun e=>hr (by injection e with _ e;omega)
  refine⟨?_,fun q' hq=> ?_⟩
  ·rw[has_put_other hne,oN g q hr]
   exact(h r).1
  ·rw[oN g q hr]at hq
   rw[atKey_put_other hne]
   exact(h r).2 q' hq
theorem Er:Keyed Tryz.prog 3:=int_keyed Tryz.underlying3
def CB (cb:Nat) (fv tv mv:Value) (w:World):Prop:=w.heap[cb]? =some (.cells #[fv,tv,mv] 224)
theorem CB.lt {cb:Nat} {fv tv mv:Value} {w:World} (h:CB cb fv tv mv w):cb<w.heap.size:=(Array.getElem?_eq_some_iff.1 h).1
theorem CB.cells {cb:Nat} {fv tv mv:Value} {w:World} (h:CB cb fv tv mv w):(w.cell? ⟨cb,0,none⟩=some fv/\w.cell? ⟨cb,1,none⟩=some tv/\w.cell? ⟨cb,2,none⟩=some mv)/\∀j,w.frozen? ⟨cb,j,none⟩=false:=by
 unfold CB at h
 refine⟨⟨?_, ?_, ?_⟩,fun j=> ?_⟩
 all_goals simp[World.cell?,World.frozen?,h]
theorem CB.set1 {cb:Nat} {fv tv mv:Value} {w:World} (h:CB cb fv tv mv w) (v:Value):CB cb fv v mv (w.setCell ⟨cb,1,none⟩ v):=by
 unfold CB at*
 simp[World.setCell,Array.getElem?_modify,h]
theorem CB.kept {cb:Nat} {fv tv mv:Value} {w w':World} (h:CB cb fv tv mv w) (k:w'.heap[cb]? =w.heap[cb]?):CB cb fv tv mv w':=k.trans h
def CpAt (base cb:Nat) (fv:Value) (S:List Wd×bI) (M:Nat->Prop) (w:World):Prop:=
 ∃tv mb D,CB cb fv tv (.map (some mb)) w/\w.ownsRow base 119 2 tv S.1.length (az S.1)/\w.ownsMap Tryz.prog 3 (plainElem Tryz.prog 3) mb S.2.length D/\vI D S.2/\M cb/\(∀b,tv.ownBlock=some b->M b)/\M mb
theorem CpAt.kept {base cb:Nat} {fv:Value} {S:List Wd×bI} {M T:Nat->Prop} {w w':World} (h:CpAt base cb fv S M w) (k:Keep T w w') (hd:∀b,M b->b<w.heap.size->¬T b):CpAt base cb fv S M w':=by
 obtain⟨tv,mb,D,h1,h2,h3,h4,h5,h6,h7⟩:=h
 refine⟨tv,mb,D,h1.kept (k.block cb h1.lt (hd cb h5 h1.lt)),di h2 k fun b e=>hd b (h6 b e) (h2.lt b e).2, ?_,h4,h5,h6,h7⟩
 have hl:=h3.lt
 obtain⟨es,clock,hh,hr⟩:=h3
 exact⟨es,clock,(k.block mb hl (hd mb h7 hl)).trans hh,hr⟩
theorem CpAt.inside {base cb:Nat} {fv:Value} {S:List Wd×bI} {M:Nat->Prop} {w:World} (h:CpAt base cb fv S M w):CpAt base cb fv S (fun b=>M b/\b<w.heap.size) w:=by
 obtain⟨tv,mb,D,h1,h2,h3,h4,h5,h6,h7⟩:=h
 exact⟨tv,mb,D,h1,h2,h3,h4,⟨h5,h1.lt⟩,fun b e=>⟨h6 b e,(h2.lt b e).2⟩,h7,h3.lt⟩
theorem CpAt.later {base cb:Nat} {fv:Value} {S:List Wd×bI} {M:Nat->Prop} {w wA:World} (h:CpAt base cb fv S M w) (hb:Below w.heap.size w wA):CpAt base cb fv S (fun b=>M b/\b<w.heap.size) wA:=
 h.inside.kept (aD hb (fun _=>False)) fun _ _ _ h=>h
theorem CpAt.mono {base cb:Nat} {fv:Value} {S:List Wd×bI} {M T:Nat->Prop} {w:World} (h:CpAt base cb fv S M w) (k:∀b,M b->T b):CpAt base cb fv S T w:=by
 obtain⟨tv,mb,D,h1,h2,h3,h4,h5,h6,h7⟩:=h
 exact⟨tv,mb,D,h1,h2,h3,h4,k _ h5,fun b e=>k b (h6 b e),k _ h7⟩
theorem JQ (cb:Nat) (k u:Int) (w:World) (h4:¬k=4):
    Calls Tryz.prog 150 #[.pointer (some ⟨cb,0,none⟩),.agg #[.int .i64 k,.int .i64 u]] w fun e w'=>e=.returned (.agg #[.int .i64 k,.int .i64 u])/\Below w.heap.size w w':=by
 have b4:(k !=4)=true:=by simpa using h4
 go_enter Tryz.func150,Tryz.ntmps150
 go_wp2_with fail
 exact bodyPost_ret (v:=.agg #[.int .i64 k,.int .i64 u]) (by simp[results,Tryz.results150,go_sem]) rfl ⟨rfl,by go_grown⟩
theorem Oi {D:DataW Unit} {g:bI} (h:vI D g) {p q:Nat} {c:Int} (hl:look g p=some q) (hc:D.atKey (.int .i64 p) (.lit (.int .i64 0))=.lit (.int .i64 c)):c=q:=by
 have:=(h p).2 q hl
 rw[this]at hc
 simp at hc
 exact hc.symm
theorem NV (base cb:Nat) (fv:Value) (S:List Wd×bI) (M:Nat->Prop) (p q:Nat) (w:World) (h:Hid (CpAt base cb fv S M w)) (hl:Hid (look S.2 p=some q)) (hp:p<=100000):
    Calls Tryz.prog 150 #[.pointer (some ⟨cb,0,none⟩),.agg #[.int .i64 4,.int .i64 p]] w fun e w'=>e=.returned (.agg #[.int .i64 4,.int .i64 q])/\Below w.heap.size w w':=by
 go_enter Tryz.func150,Tryz.ntmps150
 go_wp2_with fail
 generalize hwA:(w.alloc (Obj.cells #[Value.int IntKind.i64 4,Value.int IntKind.i64 p] 119)).alloc (Obj.cells #[.int .i64 0,.int .i64 0] 119)=wA
 have HA:Hid (Below w.heap.size w wA.drew/\wA.drew.heap.size=w.heap.size+2):=by
  subst hwA
  exact⟨(((Below.refl _ _).alloc (Nat.le_refl _) _).alloc (by simp) _).drew,by simp[World.drew]⟩
 have e1:wA.cell? ⟨w.heap.size,1,none⟩=some (.int .i64 p):=by subst hwA;simp[go_sem]
 have HR:Hid (JBox (w.heap.size+1) wA.drew):=by
  subst hwA
  have:=heap_alloc_new (w.alloc (Obj.cells #[Value.int IntKind.i64 4,Value.int IntKind.i64 p] 119)) (Obj.cells #[.int .i64 0,.int .i64 0] 119)
  have es:∀o,(w.alloc o).heap.size=w.heap.size+1:=fun o=>by simp
  rw[es]at this
  exact this
 obtain⟨mb,c2,hlk⟩:∃mb,wA.cell? ⟨cb,2,none⟩=some (.map (some mb))/\(Instr.lookup 222 (.map (some mb)) (.int .i64 p) true).run Tryz.prog wA.drew=.ok (.tuple #[.int .i64 q,.bool true]) wA.drew:=by
  obtain⟨tv,mb,D,h1,h2,h3,h4,_⟩:=h.out.later HA.out.1
  obtain⟨v,ps,hrun,hv⟩:=h3.look_ok Er Tryz.underlying222 (pI _) (plainElem_int Tryz.underlying3 (WalkArith.wf_i64 (by omega))) (keyOf_int_mk Tryz.underlying3 (WalkArith.wf_i64 (n:=(p:Int)) (by omega)))
  obtain⟨c,rfl,hc,_⟩:=plainElem_int_inv Tryz.underlying3 hv
  have e:=Oi h4 hl.out (congrArg Prod.fst hc)
  have hh:Maps.has D (.int .i64 p)=true:=(h4 p).1.2 (by rw[hl.out];rfl)
  rw[hh,e]at hrun
  exact⟨mb,h1.cells.1.2.2,hrun⟩
 clear hwA h
 go_region_held3 (fun w'=>w'.cell? ⟨w.heap.size,1,none⟩=some (.int .i64 p)/\w'.cell? ⟨cb,2,none⟩=some (.map (some mb))) (go_keep) (fail)
 obtain⟨⟨r0,r1⟩,f0,f1⟩:=HR.out.facts
 have HF:Hid (∀v0 v1,Below w.heap.size w ((wA.drew.setCell ⟨w.heap.size+1,0,none⟩ v0).setCell ⟨w.heap.size+1,1,none⟩ v1)):=by
  intro v0 v1
  have k1:=aI wA.drew (w.heap.size+1) 0 v0
  have k2:=aI (wA.drew.setCell ⟨w.heap.size+1,0,none⟩ v0) (w.heap.size+1) 1 v1
  have k3:=(aD HA.out.1 (fun b=>b=w.heap.size+1)).trans (k1.trans k2 (fun b _ h=>h)) (fun b _ h=>h)
  exact⟨k3.os,k3.tape,k3.output,k3.size,fun b hb=>k3.block b hb (by omega)⟩
 clear hlk HR HA
 generalize wA.drew=wD at*
 go_wp2_with fail
 exact bodyPost_ret (v:=.agg #[.int .i64 4,.int .i64 q]) (by simp[results,Tryz.results150,go_sem,r0,r1]) rfl ⟨rfl,HF.out _ _⟩
def yF (base cb:Nat) (fv:Value) (S:List Wd×bI) (M:Nat->Prop) (w w':World):Prop:=CpAt base cb fv S (fun b=>M b∨w.heap.size<=b) w'/\Keep M w w'
def AllC (f:Wd->List Wd×bI->Wd×List Wd×bI) (vs:List Wd) (len base cb:Nat) (fv:Value) (S:List Wd×bI) (M:Nat->Prop) (g:Nat) (w wB:World) (k:Nat) (wr:World):Prop:=
 wr.ownsRow g 119 2 (.slice (some ⟨g,0,none⟩) len len) len (az ((fC f (vs.take k) S).1++List.replicate (len-k) (0,0)))/\
 CpAt base cb fv (fC f (vs.take k) S).2 (fun b=>(M b/\b<w.heap.size)∨wB.heap.size<=b) wr/\
 Keep (fun b=>(M b/\b<w.heap.size)∨b=g) wB wr
theorem KP {f:Wd->List Wd×bI->Wd×List Wd×bI} {vs:List Wd} {len base cb:Nat} {fv:Value} {S:List Wd×bI} {M:Nat->Prop} {w w0:World} (h:CpAt base cb fv S M w)
    (ho:w0.ownsRow w.heap.size 119 2 (.slice (some ⟨w.heap.size,0,none⟩) len len) len (madeCells (Value.agg #[.int .i64 0,.int .i64 0]).cells (len*2)).toList) (hg:w.grownBy w0 none):
    AllC f vs len base cb fv S M w.heap.size w w0 0 w0/\Below w.heap.size w w0/\w.heap.size<w0.heap.size:=by
 have hb:Below w.heap.size w w0:=⟨hg.os,hg.tape,hg.output,hg.size,fun b hb=>hg.block b hb (by simp)⟩
 refine⟨⟨?_, ?_,Keep.refl _ _⟩,hb,(ho.lt _ rfl).2⟩
 ·simp only[List.take_zero,fC,List.nil_append,Nat.sub_zero]
  have e2:=vG len
  have e3:(Value.agg #[.int .i64 0,.int .i64 0]).cells= #[.int .i64 0,.int .i64 0]:=rfl
  rw[e3,e2]at ho
  exact ho
 ·simp only[List.take_zero,fC]
  exact(h.later hb).mono fun b h=>Or.inl h
theorem AllC.step {f:Wd->List Wd×bI->Wd×List Wd×bI} {vs:List Wd} {len base cb:Nat} {fv:Value} {S:List Wd×bI} {M:Nat->Prop} {g:Nat} {w wB:World} {k:Nat} {wr w1 w2:World} (H:AllC f vs len base cb fv S M g w wB k wr) (hg:w.heap.size<=g) (hgB:g<wB.heap.size) (hk:k<len) (hpl:vs.length=len) {v:Wd} (hv:vs[k]? =some v) (hb:Below wr.heap.size wr w1)
    (hL:yF base cb fv (f v (fC f (vs.take k) S).2).2 (fun b=>((M b/\b<w.heap.size)∨wB.heap.size<=b)/\b<wr.heap.size) w1 w2):
    AllC f vs len base cb fv S M g w wB (k+1) ((w2.setCell ⟨g,k*2,none⟩ (.int .i64 (f v (fC f (vs.take k) S).2).1.1)).setCell ⟨g,k*2+1,none⟩ (.int .i64 (f v (fC f (vs.take k) S).2).1.2))/\
    (w2.cell? ⟨g,k*2,none⟩=some (.int .i64 0)/\w2.cell? ⟨g,k*2+1,none⟩=some (.int .i64 0))/\w2.frozen? ⟨g,k*2,none⟩=false/\w2.frozen? ⟨g,k*2+1,none⟩=false:=by
 obtain⟨H1,H2,H3⟩:=H
 obtain⟨L1,L2⟩:=hL
 have hgr:g<wr.heap.size:=(H1.lt g rfl).2
 have hs1:=hb.size
 have hs3:=H3.size
 have e0:fC f (vs.take (k+1)) S=((fC f (vs.take k) S).1++ [(f v (fC f (vs.take k) S).2).1],(f v (fC f (vs.take k) S).2).2):=by
  rw[List.take_add_one,hv]
  exact JG _ _ _ _
 have hl:(fC f (vs.take k) S).1.length=k:=by rw[oQ,List.length_take];omega
 have r2:w2.ownsRow g 119 2 (.slice (some ⟨g,0,none⟩) len len) len (az ((fC f (vs.take k) S).1++List.replicate (len-k) (0,0))):=by
  refine di (own_below H1 hb) L2 fun b e=> ?_
  simp only[Value.ownBlock]at e
  obtain rfl:=Option.some.inj e
  omega
 generalize fC f (vs.take k) S=R at*
 generalize f v R.2=Y at*
 have hz:(R.1++List.replicate (len-k) (0,0))[k]? =some ((0,0):Wd):=by
  rw[List.getElem?_append_right (by omega),hl,Nat.sub_self,List.getElem?_replicate]
  simp;omega
 have k1:=aI w2 g (k*2) (.int .i64 Y.1.1)
 have k2:=aI (w2.setCell ⟨g,k*2,none⟩ (.int .i64 Y.1.1)) g (k*2+1) (.int .i64 Y.1.2)
 have k3:=k1.trans k2 (fun b _ h=>h)
 refine⟨⟨?_, ?_, ?_⟩,gM r2 k (0,0) hz,mU r2 _,mU r2 _⟩
 ·rw[e0]
  have hh:=iI (iI r2 (k*2) (.int .i64 Y.1.1)) (k*2+1) (.int .i64 Y.1.2)
  rw[ou _ k Y.1 (by simp;omega)]at hh
  have es:(R.1++List.replicate (len-k) ((0,0):Wd)).set k Y.1=(R.1++ [Y.1])++List.replicate (len-(k+1)) (0,0):=by
   rw[List.set_append_right _ _ (by omega)]
   have:len-k=(len-(k+1))+1:=by omega
   rw[this,List.replicate_succ]
   simp[hl]
  rw[es]at hh
  exact hh
 ·rw[e0]
  refine(L1.kept k3 ?_).mono ?_
  ·rintro b (⟨h,_⟩|h) _ e<;>omega
  ·rintro b (⟨h,_⟩|h)
   ·exact h
   ·exact Or.inr (by omega)
 ·have h1:Keep (fun b=>(M b/\b<w.heap.size)∨b=g) wB w1:=H3.trans (aD hb (fun _=>False)) (fun _ _ h=>h.elim)
  have h2:Keep (fun b=>(M b/\b<w.heap.size)∨b=g) wB w2:=h1.trans L2 (fun b hb' h=>by
   rcases h.1 with h|h
   ·exact Or.inl h
   ·omega)
  exact h2.trans k3 (fun b _ h=>Or.inr h)
def ED (f:Wd->List Wd×bI->Wd×List Wd×bI) (vs:List Wd) (base cb:Nat) (fv:Value) (S:List Wd×bI) (M:Nat->Prop) (g:Nat) (w w':World):Prop:=
 ∃M',CpAt base cb fv (fC f vs S).2 M' w'/\Keep M w w'/\(∀b,M' b->M b∨w.heap.size<=b)/\¬M' g/\w.heap.size<=g/\w'.ownsRow g 119 2 (.slice (some ⟨g,0,none⟩) vs.length vs.length) vs.length (az (fC f vs S).1)
theorem AllC.done {f:Wd->List Wd×bI->Wd×List Wd×bI} {vs:List Wd} {len base cb:Nat} {fv:Value} {S:List Wd×bI} {M:Nat->Prop} {g:Nat} {w wB wr:World} (H:AllC f vs len base cb fv S M g w wB len wr) (hpl:vs.length=len) (hg:w.heap.size<=g) (hgB:g<wB.heap.size) (hB:Below w.heap.size w wB):ED f vs base cb fv S M g w wr:=by
 obtain⟨H1,H2,H3⟩:=H
 rw[List.take_of_length_le (by omega)]at H1 H2
 rw[Nat.sub_self,List.replicate_zero,List.append_nil]at H1
 subst hpl
 refine⟨_,H2,(aD hB M).trans H3 ?_, ?_, ?_,hg,H1⟩
 ·rintro b hb (h|h)
  ·exact h.1
  ·omega
 ·rintro b (h|h)
  ·exact Or.inl h.1
  ·exact Or.inr (by have:=hB.size;omega)
 ·rintro (h|h)<;>omega
theorem Ai (f:Wd->List Wd×bI->Wd×List Wd×bI) (vs:List Wd) (base cb:Nat) (fv:Value) (S:List Wd×bI) (M:Nat->Prop) (a:Option Addr) (len pc:Nat) (w:World) (hvl:Hid (vs.length=len)) (hlen:len<=100000) (h:Hid (CpAt base cb fv S M w)) (hin:Hid (dG w vs a)) (hoff:Hid (∀b o,a=some ⟨b,o,none⟩->¬M b))
    (ih:Hid (∀(k:Nat) (v:Wd),vs[k]? =some v->∀(M':Nat->Prop) (w1:World),CpAt base cb fv (fC f (vs.take k) S).2 M' w1->Keep M w w1->(∀b,M' b->M b∨w.heap.size<=b)->
     Calls Tryz.prog 150 #[.pointer (some ⟨cb,0,none⟩),.agg #[.int .i64 v.1,.int .i64 v.2]] w1 fun e w2=>e=.returned (.agg #[.int .i64 (f v (fC f (vs.take k) S).2).1.1,.int .i64 (f v (fC f (vs.take k) S).2).1.2])/\Hid (yF base cb fv (f v (fC f (vs.take k) S).2).2 M' w1 w2))):
    Calls Tryz.prog 146 #[.pointer (some ⟨cb,0,none⟩),.slice a len pc] w fun e w'=>∃g,e=.returned (.slice (some ⟨g,0,none⟩) len len)/\Hid (ED f vs base cb fv S M g w w'):=by
 obtain⟨it,hit,htz0,htz1,htz2⟩:=info_parts jJ
 go_enter Tryz.func146,Tryz.ntmps146
 go_wp2_with (at_make;refine wpList_make_full _ rfl _ _ 123 rfl w.heap.size 119 it _ 2 Tryz.underlying123 hit htz0 htz1 _ _ _ _ len rfl rfl rfl rfl (by rw[htz2];omega) (by unfold maxLen;omega) (Nat.le_refl _) ?_;intro w0 hown0 hgrow0;have HM:=hide (KP (f:=f) (vs:=vs) h.out hown0 hgrow0);clear hown0 hgrow0)
 clear hit htz0 htz1 htz2
 have HLP:Hid (AllC f vs len base cb fv S M w.heap.size w w0 0 w0):=HM.out.1
 have hgB:w.heap.size<w0.heap.size:=HM.out.2.2
 go_loopw [13] (fun i wr=>∃k:Nat,k<=len/\i=.int .i64 k/\Hid (AllC f vs len base cb fv S M w.heap.size w w0 k wr)) (fun i _=>len-(intOf i).toNat)
 case atStart=>exact⟨0,by omega,rfl,HLP.out⟩
 case round=>
  clear HLP
  obtain⟨k,hk,rfl,HL⟩:=hrel
  by_cases hlt:k<len
  ·obtain⟨v,hv⟩:∃v,vs[k]? =some v:=⟨vs[k]'(by rw[hvl.out];exact hlt),List.getElem?_eq_getElem _⟩
   obtain⟨b,o,rfl,hb,hvs⟩:∃b o,a=some ⟨b,o,none⟩/\b<w.heap.size/\∀(i:Nat) (v:Wd),vs[i]? =some v->w.cell? ⟨b,o+i*2,none⟩=some (.int .i64 v.1)/\w.cell? ⟨b,o+i*2+1,none⟩=some (.int .i64 v.2):=by
    rcases hin.out with e|e
    ·rw[e]at hv;simp at hv
    ·exact e
   obtain⟨v0,v1⟩:=hvs k v hv
   have hblk:wr.heap[b]? =w.heap[b]? :=(HL.out.2.2.block b (by omega) (by rintro (h|h);exact hoff.out b o rfl h.1;omega)).trans (HM.out.2.1.block b hb)
   replace v0:=(aK hblk (o+k*2)).trans v0
   replace v1:=(aK hblk (o+k*2+1)).trans v1
   have hgr:w.heap.size<wr.heap.size:=(HL.out.1.lt _ rfl).2
   have hw0:=HL.out.2.2.size
   have hkw:Keep M w wr:=(aD HM.out.2.1 M).trans HL.out.2.2 (by rintro b hb (h|h);exact h.1;omega)
   obtain⟨V,HC⟩:∃V:Wd,Hid (∀w1,Below wr.heap.size wr w1->Calls Tryz.prog 150 #[.pointer (some ⟨cb,0,none⟩),.agg #[.int .i64 v.1,.int .i64 v.2]] w1 fun e w2=>e=.returned (.agg #[.int .i64 V.1,.int .i64 V.2])/\
       Hid (AllC f vs len base cb fv S M w.heap.size w w0 (k+1) ((w2.setCell ⟨w.heap.size,k*2,none⟩ (.int .i64 V.1)).setCell ⟨w.heap.size,k*2+1,none⟩ (.int .i64 V.2))/\
        (w2.cell? ⟨w.heap.size,k*2,none⟩=some (.int .i64 0)/\w2.cell? ⟨w.heap.size,k*2+1,none⟩=some (.int .i64 0))/\w2.frozen? ⟨w.heap.size,k*2,none⟩=false/\w2.frozen? ⟨w.heap.size,k*2+1,none⟩=false)):=by
    refine⟨(f v (fC f (vs.take k) S).2).1,fun w1 h1=> ?_⟩
    refine(ih.out k v hv _ w1 (HL.out.2.1.later h1) (hkw.trans (aD h1 M) (fun _ _ h=>h)) ?_).mono ?_
    ·rintro b ⟨h|h,_⟩
     ·exact Or.inl h.1
     ·exact Or.inr (by omega)
    ·rintro e w2 ⟨rfl,HLD⟩
     exact⟨rfl,HL.out.step (Nat.le_refl _) hgB hlt hvl.out hv h1 HLD.out⟩
   clear ih HL hin hvs hv hoff hblk hkw
   have hk1:(0:Int)<=(k:Int):=by omega
   have hk2:(k:Int)<(len:Int):=by omega
   have hbr:b<wr.heap.size:=by omega
   go_wp2_with fail
   refine(HC.out _ ((Below.refl _ _).alloc (Nat.le_refl _) _)).mono ?_
   rintro e w2 ⟨rfl,HS⟩
   obtain⟨⟨d0,d1⟩,f0,f1⟩:=HS.out.2
   clear HC v0 v1
   go_wp2_with fail
   go_roundw
   case rel=>exact⟨k+1,by omega,by go_num,HS.out.1⟩
   case measure=>simp[intOf];omega
  ·obtain rfl:k=len:=by omega
   have HE:=hide (HL.out.done hvl.out (Nat.le_refl _) hgB HM.out.2.1)
   clear HL ih
   go_wp2_with fail
   go_ret
   exact⟨_,rfl,HE.out⟩
theorem Kw {w:World} {base:Nat} {e:TypeId} {s n:Nat} {v:Value} {xs:List Value} {cb:Nat} {fv tv mv:Value} (h:w.ownsRow base e s v n xs) (hB:CB cb fv tv mv w) (hne:e≠224):v.ownBlock≠some cb:=fun e=>by
 rcases h.2 with⟨rfl,_⟩|⟨g',cap,cur,rfl,_,hh,_⟩
 ·simp[Value.ownBlock]at e
 ·simp[Value.ownBlock]at e
  subst e
  have h2:w.heap[g']? =_:=hB
  rw[hh]at h2
  injection h2 with h2
  injection h2 with h2 h3
  exact hne h3
theorem C9 {w:World} {base:Nat} {e:TypeId} {s n L mb:Nat} {v:Value} {xs:List Value} {D:DataW Unit} (h:w.ownsRow base e s v n xs) (hM:w.ownsMap Tryz.prog 3 (plainElem Tryz.prog 3) mb L D):v.ownBlock≠some mb:=fun e1=>by
 rcases h.2 with⟨rfl,_⟩|⟨g,cap,cur,rfl,_,hh,_⟩
 ·simp[Value.ownBlock]at e1
 ·simp only[Value.ownBlock]at e1
  obtain rfl:=Option.some.inj e1
  obtain⟨es,clock,hh',_⟩:=hM
  rw[hh]at hh'
  cases hh'
theorem vM {w:World} {L mb cb:Nat} {D:DataW Unit} {fv tv mv:Value} (hM:w.ownsMap Tryz.prog 3 (plainElem Tryz.prog 3) mb L D) (hB:CB cb fv tv mv w):mb≠cb:=by
 rintro rfl
 obtain⟨es,clock,hh',_⟩:=hM
 have h2:w.heap[mb]? =_:=hB
 rw[hh']at h2
 cases h2
theorem QI (base cb:Nat) (fv:Value) (S:List Wd×bI) (M:Nat->Prop) (ps:List Wd) (m pc:Nat) (pa:Option Addr) (w:World) (h:CpAt base cb fv S M w) (hbw:base<=w.heap.size) (hL:S.1.length<=100000) (hm:ps.length=m) (hM:m<=1000)
    (HS:∀w1,Keep M w w1->dO w1 ps pa):
    Calls Tryz.prog 97 #[.pointer (some ⟨cb,1,none⟩),.slice pa m pc] w fun e w'=>e=.returned (.agg #[.int .i64 4,.int .i64 S.1.length])/\Hid (yF base cb fv (S.1++(0,(m:Int))::ps,S.2) M w w'):=by
 obtain⟨tv,mb,D,h1,h2,h3,h4,h5,h6,h7⟩:=h
 obtain⟨⟨c0,c1,c2⟩,hf⟩:=h1.cells
 obtain⟨ta,tc,htv⟩:∃ta tc,tv=.slice ta S.1.length tc:=by
  rcases h2.2 with⟨e,e0⟩|⟨g,c,cur,e,_⟩
  ·exact⟨none,0,by rw[e,e0]⟩
  ·exact⟨_,c,e⟩
 subst hm
 refine(BC base cb 1 tv ta tc S.1.length S.1 ps ps.length pc pa w htv rfl rfl hL hM hbw c1 (hf 1) h1.lt (Kw h2 h1 (by decide)) h2 ?_).mono ?_
 ·intro w1 k
  refine HS w1 (k.mono ?_)
  rintro b (rfl|e)
  ·exact h5
  ·exact h6 b e
 ·rintro e w' ⟨rfl,tv',H⟩
  obtain⟨k1,k2,k3,k4⟩:=H.out
  refine⟨rfl,⟨tv',mb,D,(h1.set1 tv').kept k2, ?_, ?_,h4,Or.inl h5, ?_,Or.inl h7⟩,k3.mono ?_⟩
  ·have e:(S.1++(0,(ps.length:Int))::ps).length=S.1.length+1+ps.length:=by simp;omega
   rw[e]
   exact k1
  ·have hl:=h3.lt
   have hx1:=vM h3 h1
   have hx2:=C9 h2 h3
   obtain⟨es,clock,hh,hr⟩:=h3
   refine⟨es,clock,(k3.block mb hl ?_).trans hh,hr⟩
   rintro (e|e)
   ·exact hx1 e
   ·exact hx2 e
  ·intro b e
   rcases k4 b e with e|e
   ·exact Or.inl (h6 b e)
   ·exact Or.inr e
  ·rintro b (rfl|e)
   ·exact h5
   ·exact h6 b e
theorem N8 {base cb:Nat} {fv:Value} {S:List Wd×bI} {M:Nat->Prop} {w:World} (h:CpAt base cb fv S M w) (p q:Nat) (hp:p<=100000) (hq:q<=100000) (hn:S.2.length<=100000):
    ∃mb,w.cell? ⟨cb,2,none⟩=some (.map (some mb))/\∃w4,(Instr.mapUpdate 222 (.map (some mb)) (.int .i64 p) (.int .i64 q)).run Tryz.prog w=.ok () w4/\CpAt base cb fv (S.1,(p,q)::S.2) M w4/\Keep (fun b=>b=mb) w w4/\M mb/\mb<w.heap.size/\w4.cell? ⟨cb,2,none⟩=some (.map (some mb)):=by
 obtain⟨tv,mb,D,h1,h2,h3,h4,h5,h6,h7⟩:=h
 obtain⟨w4,hrun,hown,hg⟩:=h3.update Er Tryz.underlying222 (by unfold maxLen;omega) (keyOf_int_mk Tryz.underlying3 (WalkArith.wf_i64 (n:=(p:Int)) (by omega))) (plainElem_int Tryz.underlying3 (WalkArith.wf_i64 (n:=(q:Int)) (by omega)))
 have k:=Et hg
 have k2:Keep (fun b=>b=mb) w w4:=k.mono fun b e=>(Option.some.inj e).symm
 refine⟨mb,h1.cells.1.2.2,w4,hrun,⟨tv,mb,_,h1.kept (k2.block cb h1.lt (fun e=>vM h3 h1 e.symm)),di h2 k2 ?_,hown,JX h3 h4 p q,h5,h6,h7⟩,k2,h7,h3.lt,(h1.kept (k2.block cb h1.lt (fun e=>vM h3 h1 e.symm))).cells.1.2.2⟩
 intro b e e'
 subst e'
 exact C9 h2 h3 e
theorem Ep (w:World) (a b:Int):(Instr.field 119 (.agg #[.int .i64 a,.int .i64 b]) 1).run Tryz.prog w=.ok (.int .i64 b) w:=by kernel_rfl
theorem Ng (base cb:Nat) (fv:Value) (S:List Wd×bI) (M:Nat->Prop) (p q fg L fc n:Nat) (w:World) (F:World->Prop) (h:Hid (CpAt base cb fv S M w)) (hfv:fv=.slice (some ⟨fg,0,none⟩) L fc) (hl:Hid (look S.2 p=none)) (hp:p<=100000)
    (HC:Hid (∀wD,Below w.heap.size w wD->w.heap.size+2<=wD.heap.size->Calls Tryz.prog 120 #[.slice (some ⟨fg,0,none⟩) L fc,.int .i64 p] wD fun e w'=>w'=wD/\∃o pc,e=.returned (.slice (some ⟨fg,o,none⟩) n pc)/\
     Hid (Calls Tryz.prog 146 #[.pointer (some ⟨cb,0,none⟩),.slice (some ⟨fg,o,none⟩) n pc] wD fun e w2=>∃g,e=.returned (.slice (some ⟨g,0,none⟩) n n)/\
      Hid ((∀j,w2.cell? ⟨w.heap.size,j,none⟩=wD.cell? ⟨w.heap.size,j,none⟩)/\w2.cell? ⟨cb,0,none⟩=some (.slice (some ⟨fg,0,none⟩) L fc)/\
       Calls Tryz.prog 97 #[.pointer (some ⟨cb,1,none⟩),.slice (some ⟨g,0,none⟩) n n] w2 fun e w3=>e=.returned (.agg #[.int .i64 4,.int .i64 q])/\
        Hid ((∀j,w3.cell? ⟨w.heap.size,j,none⟩=wD.cell? ⟨w.heap.size,j,none⟩)/\w3.cell? ⟨cb,0,none⟩=some (.slice (some ⟨fg,0,none⟩) L fc)/\
         ∃mb w4,w3.cell? ⟨cb,2,none⟩=some (.map (some mb))/\(Instr.mapUpdate 222 (.map (some mb)) (.int .i64 p) (.int .i64 q)).run Tryz.prog w3.drew=.ok () w4/\(∀j,w4.cell? ⟨w.heap.size,j,none⟩=wD.cell? ⟨w.heap.size,j,none⟩)/\w4.cell? ⟨cb,2,none⟩=some (.map (some mb))/\
          (JBox (w.heap.size+1) wD->JBox (w.heap.size+1) w4)/\∀v0 v1,F ((w4.setCell ⟨w.heap.size+1,0,none⟩ v0).setCell ⟨w.heap.size+1,1,none⟩ v1)))))):
    Calls Tryz.prog 150 #[.pointer (some ⟨cb,0,none⟩),.agg #[.int .i64 4,.int .i64 p]] w fun e w'=>e=.returned (.agg #[.int .i64 4,.int .i64 q])/\F w':=by
 subst hfv
 go_enter Tryz.func150,Tryz.ntmps150
 go_wp2_with fail
 generalize hwA:(w.alloc (Obj.cells #[Value.int IntKind.i64 4,Value.int IntKind.i64 p] 119)).alloc (Obj.cells #[.int .i64 0,.int .i64 0] 119)=wA
 have HA:Hid (Below w.heap.size w wA.drew/\wA.drew.heap.size=w.heap.size+2):=by
  subst hwA
  exact⟨(((Below.refl _ _).alloc (Nat.le_refl _) _).alloc (by simp) _).drew,by simp[World.drew]⟩
 have e1:wA.cell? ⟨w.heap.size,1,none⟩=some (.int .i64 p):=by subst hwA;simp[go_sem]
 have HR:Hid (JBox (w.heap.size+1) wA.drew):=by
  subst hwA
  have:=heap_alloc_new (w.alloc (Obj.cells #[Value.int IntKind.i64 4,Value.int IntKind.i64 p] 119)) (Obj.cells #[.int .i64 0,.int .i64 0] 119)
  have es:∀o,(w.alloc o).heap.size=w.heap.size+1:=fun o=>by simp
  rw[es]at this
  exact this
 obtain⟨mb,cz,c0,c2,hlk⟩:∃mb,∃cz:Int,wA.cell? ⟨cb,0,none⟩=some (.slice (some ⟨fg,0,none⟩) L fc)/\wA.cell? ⟨cb,2,none⟩=some (.map (some mb))/\(Instr.lookup 222 (.map (some mb)) (.int .i64 p) true).run Tryz.prog wA.drew=.ok (.tuple #[.int .i64 cz,.bool false]) wA.drew:=by
  obtain⟨tv,mb,D,h1,h2,h3,h4,_⟩:=h.out.later HA.out.1
  obtain⟨v,ps,hrun,hv⟩:=h3.look_ok Er Tryz.underlying222 (pI _) (plainElem_int Tryz.underlying3 (WalkArith.wf_i64 (by omega))) (keyOf_int_mk Tryz.underlying3 (WalkArith.wf_i64 (n:=(p:Int)) (by omega)))
  obtain⟨c,rfl,hc,_⟩:=plainElem_int_inv Tryz.underlying3 hv
  have hh:Maps.has D (.int .i64 p)=false:=by
   cases hx:Maps.has D (.int .i64 p)
   ·rfl
   ·have:=(h4 p).1.1 hx
    rw[hl.out]at this
    simp at this
  rw[hh]at hrun
  exact⟨mb,c,h1.cells.1.1,h1.cells.1.2.2,hrun⟩
 clear hwA h
 go_region_held3 (fun w'=>w'.cell? ⟨w.heap.size,1,none⟩=some (.int .i64 p)/\w'.cell? ⟨cb,2,none⟩=some (.map (some mb))) (go_keep) (fail)
 have e1':wA.drew.cell? ⟨w.heap.size,1,none⟩=some (.int .i64 p):=e1
 have c0':wA.drew.cell? ⟨cb,0,none⟩=some (.slice (some ⟨fg,0,none⟩) L fc):=c0
 clear hlk e1 c0 c2
 generalize wA.drew=wD at*
 have HP:=hide (HC.out wD.drew HA.out.1.drew (by have:=HA.out.2;show w.heap.size+2<=wD.heap.size;omega))
 clear HC
 have hfld:=Ep
 go_wp2_with fail
 go_region_held3 (fun w'=>w'.cell? ⟨w.heap.size,1,none⟩=some (.int .i64 p)/\w'.cell? ⟨cb,0,none⟩=some (.slice (some ⟨fg,0,none⟩) L fc)) (go_keep) ((first
  | (go_at_call 120;refine HP.out.mono ?_;rintro e w2 ⟨rfl,o,pc,rfl,HALL⟩;clear HP)
  | (go_at_call 146;refine HALL.out.mono ?_;rintro e w2 ⟨g,rfl,HADD⟩;have x1:=(HADD.out.1 1).trans e1';have x2:=HADD.out.2.1;clear HALL)
  | (go_at_call 97;refine HADD.out.2.2.mono ?_;rintro e w3 ⟨rfl,HFIN⟩;have y1:=(HFIN.out.1 1).trans e1';have y2:=HFIN.out.2.1;clear HADD)))
 obtain⟨mb2,w4,u2,hup,HV,z2,HJ,HF⟩:∃mb2 w4,w3.cell? ⟨cb,2,none⟩=some (.map (some mb2))/\(Instr.mapUpdate 222 (.map (some mb2)) (.int .i64 p) (.int .i64 q)).run Tryz.prog w3.drew=.ok () w4/\Hid (∀j,w4.cell? ⟨w.heap.size,j,none⟩=wD.drew.cell? ⟨w.heap.size,j,none⟩)/\w4.cell? ⟨cb,2,none⟩=some (.map (some mb2))/\Hid (JBox (w.heap.size+1) w4)/\Hid (∀v0 v1,F ((w4.setCell ⟨w.heap.size+1,0,none⟩ v0).setCell ⟨w.heap.size+1,1,none⟩ v1)):=by
  obtain⟨mb2,w4,k1,k2,k3,k4,k5,k6⟩:=HFIN.out.2.2
  exact⟨mb2,w4,k1,k2,k3,k4,k5 HR.out,k6⟩
 have z1:=(HV.out 1).trans e1'
 obtain⟨⟨r0,r1⟩,f0,f1⟩:=HJ.out.facts
 clear HFIN HV HJ HR HA x1 x2 y2 c0' e1' hfld
 go_wp2_with fail
 go_region_held3 (fun w'=>w'.cell? ⟨w.heap.size,1,none⟩=some (.int .i64 p)/\w'.cell? ⟨cb,2,none⟩=some (.map (some mb2))) (go_keep) (fail)
 clear hup u2 y1 z1 z2
 go_wp2_with fail
 exact bodyPost_ret (v:=.agg #[.int .i64 4,.int .i64 q]) (by simp[results,Tryz.results150,go_sem,r0,r1]) rfl ⟨rfl,HF.out _ _⟩
def partsOf (ws:List Wd) (p n:Nat):List Wd:=(ws.drop (p+1)).take n
theorem EE {ws:List Wd} {p n i:Nat} (hi:i<n):(partsOf ws p n)[i]? =ws[p+1+i]? :=by
 unfold partsOf
 rw[List.getElem?_take_of_lt hi,List.getElem?_drop]
theorem jI {ws:List Wd} {p n:Nat} (h:p+1+n<=ws.length):(partsOf ws p n).length=n:=by
 unfold partsOf
 rw[List.length_take,List.length_drop]
 omega
def StandL (ws:List Wd) (nm:List ByteArray) (n:Nat) (l:List Wd) (p:List (Tm n)):Prop:=l.length=p.length/\∀(i:Nat) (v:Wd) (y:Tm n),l[i]? =some v->p[i]? =some y->Stands ws nm n y v
theorem vB {ws:List Wd} {n:Nat} {v:Wd} {S:List Wd×bI} (h:v.1≠4):iO ws n v S=(v,S):=by
 cases n with
 | zero=>rfl
 | succ n=>simp[iO,h]
theorem Ga {ws:List Wd} {n p q:Nat} {S:List Wd×bI} (h:look S.2 p=some q):iO ws (n+1) (4,(p:Int)) S=((4,(q:Int)),S):=by
 simp[iO,h]
theorem zQ {ws:List Wd} {n p m:Nat} {S:List Wd×bI} (h:look S.2 p=none) (hp:ws[p]? =some (0,(m:Int))):iO ws (n+1) (4,(p:Int)) S=
    ((4,((fC (iO ws n) (partsOf ws p m) S).2.1.length:Int)),(fC (iO ws n) (partsOf ws p m) S).2.1++(0,(m:Int))::(fC (iO ws n) (partsOf ws p m) S).1,(p,(fC (iO ws n) (partsOf ws p m) S).2.1.length)::(fC (iO ws n) (partsOf ws p m) S).2.2):=by
 simp[iO,h,hp,partsOf]
theorem ng {ws:List Wd} {nm:List ByteArray} {n:Nat} (ih:∀(x:Tm n) (v:Wd) (S:List Wd×bI),Stands ws nm n x v->((iO ws n v S).2.1.length:Int)<=S.1.length+sz n x/\(iO ws n v S).2.2.length<=S.2.length+(nodes n x).length):
    (l:List Wd)->(p:List (Tm n))->(S:List Wd×bI)->StandL ws nm n l p->((fC (iO ws n) l S).2.1.length:Int)+p.length<=S.1.length+(p.map fun y=>1+sz n y).sum/\(fC (iO ws n) l S).2.2.length<=S.2.length+(p.flatMap fun y=>nodes n y).length
 | [],[],S,_=>by simp[fC]
 | [],_::_,_,h=>by have:=h.1;simp at this
 | _::_,[],_,h=>by have:=h.1;simp at this
 | v::l,y::p,S,h=>by
  obtain⟨a1,a2⟩:=ih y v S (h.2 0 v y rfl rfl)
  obtain⟨b1,b2⟩:=ng ih l p (iO ws n v S).2 ⟨by have:=h.1;simpa using this,fun i v' y' hv hy=>h.2 (i+1) v' y' (by simpa using hv) (by simpa using hy)⟩
  simp only[fC,List.map_cons,List.sum_cons,List.flatMap_cons,List.length_append,List.length_cons]
  exact⟨by omega,by omega⟩
theorem iy {ws:List Wd} {nm:List ByteArray} {n:Nat} {x:Tm (n+1)} {v:Wd} (h:Stands ws nm (n+1) x v) (h4:x.1.1=4):∃p:Nat,v=(4,(p:Int))/\ws[p]? =some (0,(x.2.2.length:Int))/\p+1+x.2.2.length<=ws.length/\StandL ws nm n (partsOf ws p x.2.2.length) x.2.2:=by
 obtain⟨p,e1,e2,e3,e4⟩:=h.2.1 h4
 refine⟨p,e1,e2,e3,jI e3,fun i v' y hv hy=> ?_⟩
 obtain⟨u,e5,e6⟩:=e4 i y hy
 rw[EE (List.getElem?_eq_some_iff.1 hy).1,e5]at hv
 obtain rfl:=Option.some.inj hv
 exact e6
theorem gU {ws:List Wd} {nm:List ByteArray} {n:Nat} {x:Tm (n+1)} {v:Wd} (h:Stands ws nm (n+1) x v) (h4:x.1.1≠4):v.1≠4:=by
 by_cases h2:x.1.1=2
 ·obtain⟨i,rfl,_⟩:=h.1 h2
  simp
 ·rw[h.2.2 h2 h4]
  exact h4
theorem rR {ws:List Wd} {nm:List ByteArray}:(n:Nat)->(x:Tm n)->(v:Wd)->(S:List Wd×bI)->Stands ws nm n x v->((iO ws n v S).2.1.length:Int)<=S.1.length+sz n x/\(iO ws n v S).2.2.length<=S.2.length+(nodes n x).length
 | 0,_,_,_,h=>h.elim
 | n+1,x,v,S,h=>by
  have hz:=(dI (n+1) x).1
  by_cases h4:x.1.1=4
  ·obtain⟨p,rfl,hp,hl,hs⟩:=iy h h4
   cases hk:look S.2 p with
   | some q=>
    rw[Ga hk]
    exact⟨by simp only;omega,by simp only;omega⟩
   | none=>
    rw[zQ hk hp]
    obtain⟨a,b⟩:=ng (fun x v S hh=>rR n x v S hh) (partsOf ws p x.2.2.length) x.2.2 S hs
    have e:=oQ (iO ws n) (partsOf ws p x.2.2.length) S
    rw[jI hl]at e
    have k5:(nodes (n+1) x).length=1+(x.2.2.flatMap fun y=>nodes n y).length:=by simp[nodes];omega
    simp only[List.length_append,List.length_cons,e,sz,if_pos h4,k5]
    exact⟨by omega,by omega⟩
  ·rw[vB (gU h h4)]
   exact⟨by simp only;omega,by simp only;omega⟩
def PD (ws:List Wd) (nm:List ByteArray) (n:Nat):Prop:=∀(x:Tm n) (v:Wd) (base cb b0:Nat) (fv:Value) (S:List Wd×bI) (M:Nat->Prop) (w:World),CpAt base cb fv S M w->w.ownsRow b0 119 2 fv ws.length (az ws)->(∀b,fv.ownBlock=some b->¬M b)->base<=w.heap.size->Stands ws nm n x v->ai ⟨n,x⟩->ws.length<=100000->(S.1.length:Int)+sz n x<=90000->S.2.length+(nodes n x).length<=90000->
 Calls Tryz.prog 150 #[.pointer (some ⟨cb,0,none⟩),Jv v] w fun e w'=>e=.returned (Jv (iO ws n v S).1)/\Hid (yF base cb fv (iO ws n v S).2 M w w')
theorem NK (n:Nat) (p:List (Tm n)) (k:Nat) (x:Tm n) (hx:p[k]? =some x):((p.take k).map fun y=>1+sz n y).sum+(1+sz n x)<=(p.map fun y=>1+sz n y).sum:=by
 obtain⟨hl,rfl⟩:=List.getElem?_eq_some_iff.1 hx
 have e:p=p.take k++p[k]::p.drop (k+1):=by
  rw[<-List.drop_eq_getElem_cons hl,List.take_append_drop]
 have h0:∀l:List (Tm n),0<=(l.map fun y=>1+sz n y).sum:=by
  intro l
  induction l with
  | nil=>simp
  | cons y l ih=>
   have:=(dI n y).1
   simp only[List.map_cons,List.sum_cons]
   omega
 have h1:=h0 (p.drop (k+1))
 conv=>rhs;rw[e]
 simp only[List.map_append,List.sum_append,List.map_cons,List.sum_cons]
 omega
theorem StandL.take {ws:List Wd} {nm:List ByteArray} {n:Nat} {l:List Wd} {p:List (Tm n)} (h:StandL ws nm n l p) (k:Nat):StandL ws nm n (l.take k) (p.take k):=by
 refine⟨by simp[h.1],fun i v y hv hy=> ?_⟩
 rw[List.getElem?_take]at hv hy
 split at hv
 ·rename_i hi
  rw[if_pos hi]at hy
  exact h.2 i v y hv hy
 ·cases hv
theorem si (ws:List Wd) (nm:List ByteArray) (n:Nat) (ih:PD ws nm n) (vs:List Wd) (p:List (Tm n)) (base cb b0:Nat) (fv:Value) (S:List Wd×bI) (M:Nat->Prop) (a:Option Addr) (pc:Nat) (w:World) (h:CpAt base cb fv S M w) (hrow:w.ownsRow b0 119 2 fv ws.length (az ws)) (hfm:∀b,fv.ownBlock=some b->¬M b) (hbw:base<=w.heap.size) (hst:StandL ws nm n vs p) (hr:∀y∈p,ai ⟨n,y⟩) (hws:ws.length<=100000) (hlen:vs.length<=100000)
    (hz:(S.1.length:Int)+(p.map fun y=>1+sz n y).sum<=90000) (hn:S.2.length+(p.flatMap fun y=>nodes n y).length<=90000) (hin:dG w vs a) (hoff:∀b o,a=some ⟨b,o,none⟩->¬M b):
    Calls Tryz.prog 146 #[.pointer (some ⟨cb,0,none⟩),.slice a vs.length pc] w fun e w'=>∃g,e=.returned (.slice (some ⟨g,0,none⟩) vs.length vs.length)/\Hid (ED (iO ws n) vs base cb fv S M g w w'):=by
 refine Ai (iO ws n) vs base cb fv S M a vs.length pc w rfl hlen h hin hoff ?_
 intro k v hv M' w1 hc hk hM
 have hkl:=(List.getElem?_eq_some_iff.1 hv).1
 obtain⟨y,hy⟩:∃y,p[k]? =some y:=⟨p[k]'(by rw[<-hst.1];exact hkl),List.getElem?_eq_getElem _⟩
 obtain⟨s1,s2⟩:=ng (fun x v S hh=>rR n x v S hh) (vs.take k) (p.take k) S (hst.take k)
 have r1:=NK n p k y hy
 have r2:=Bp n p k y hy
 have hs:=hk.size
 refine ih y v base cb b0 fv _ M' w1 hc (di hrow hk fun b e=>hfm b e) ?_ (by omega) (hst.2 k v y hv hy) (hr y (List.mem_of_getElem? hy)) hws (by omega) (by omega)
 intro b e hm
 rcases hM b hm with hm|hm
 ·exact hfm b e hm
 ·have:=(hrow.lt b e).2
  omega
theorem vX {base cb:Nat} {fv:Value} {S:List Wd×bI} {M:Nat->Prop} {w w':World} (h:CpAt base cb fv S M w) (hb:Below w.heap.size w w'):yF base cb fv S M w w':=
 ⟨(h.later hb).mono fun _ h=>Or.inl h.1,aD hb M⟩
theorem Oj (ws:List Wd) (nm:List ByteArray) (n:Nat) (ih:PD ws nm n) (ps:List (Tm n)) (p:Nat) (base cb b0:Nat) (fv:Value) (S:List Wd×bI) (M:Nat->Prop) (w:World) (h:CpAt base cb fv S M w) (hrow:w.ownsRow b0 119 2 fv ws.length (az ws)) (hfm:∀b,fv.ownBlock=some b->¬M b) (hbw:base<=w.heap.size) (hp:ws[p]? =some (0,(ps.length:Int))) (hpl:p+1+ps.length<=ws.length) (hst:StandL ws nm n (partsOf ws p ps.length) ps) (hr:∀y∈ps,ai ⟨n,y⟩) (h8:ps.length<=8) (hws:ws.length<=100000)
    (hz:(S.1.length:Int)+(ps.map fun y=>1+sz n y).sum<=90000) (hn:S.2.length+(ps.flatMap fun y=>nodes n y).length<=90000) (hl:look S.2 p=none):
    Calls Tryz.prog 150 #[.pointer (some ⟨cb,0,none⟩),Jv (4,(p:Int))] w fun e w'=>e=.returned (Jv (4,((fC (iO ws n) (partsOf ws p ps.length) S).2.1.length:Int)))/\
     Hid (yF base cb fv ((fC (iO ws n) (partsOf ws p ps.length) S).2.1++(0,(ps.length:Int))::(fC (iO ws n) (partsOf ws p ps.length) S).1,(p,(fC (iO ws n) (partsOf ws p ps.length) S).2.1.length)::(fC (iO ws n) (partsOf ws p ps.length) S).2.2) M w w'):=by
 obtain⟨fg,fc,hfv,_,_⟩:=hrow.form (by omega)
 have hpn:=jI hpl
 obtain⟨s1,s2⟩:=ng (fun x v S hh=>rR n x v S hh) (partsOf ws p ps.length) ps S hst
 refine Ng base cb fv S M p _ fg ws.length fc ps.length w _ h hfv hl (by omega) ?_
 intro wD hD hDs
 subst hfv
 have hfl:=(hrow.lt fg rfl).2
 have hrD:wD.ownsRow b0 119 2 (.slice (some ⟨fg,0,none⟩) ws.length fc) ws.length (az ws):=own_below hrow hD
 refine(xV b0 fg ws.length fc p ps.length ws wD hws hrD hp hpl).mono ?_
 rintro e w' ⟨rfl,pa,pc,rfl,_,hwd,o,rfl⟩
 refine⟨rfl,o,pc,rfl, ?_⟩
 have hin:dG w' (partsOf ws p ps.length) (some ⟨fg,o,none⟩):=AL hwd (by have:=hD.size;omega)
 have hcall:=si ws nm n ih (partsOf ws p ps.length) ps base cb b0 (.slice (some ⟨fg,0,none⟩) ws.length fc) S _ (some ⟨fg,o,none⟩) pc w' (h.later hD) hrD (fun b e hm=>hfm b e hm.1) (by have:=hD.size;omega) hst hr hws (by omega) hz hn hin (fun b o' e hm=>hfm b (by injection e with e;injection e with e;subst e;rfl) hm.1)
 rw[hpn]at hcall
 refine hcall.mono ?_
 rintro e w2 ⟨g,rfl,HO⟩
 obtain⟨M',a1,a2,a3,a4,a5,a6⟩:=HO.out
 rw[hpn]at a6
 have hM':∀b,M' b->(M b/\b<w.heap.size)∨w'.heap.size<=b:=a3
 have hs2:=a2.size
 refine⟨g,rfl,fun j=>aK (a2.block _ (by omega) (fun hm=>by omega)) j, ?_, ?_⟩
 ·obtain⟨tv,mb,D,k1,_⟩:=a1
  exact k1.cells.1.1
 refine(QI base cb _ _ M' (fC (iO ws n) (partsOf ws p ps.length) S).1 ps.length ps.length (some ⟨g,0,none⟩) w2 a1 (by have:=hD.size;omega) (by omega) (by rw[oQ];exact hpn) (by omega) ?_).mono ?_
 ·intro w1 hk
  exact Or.inr ⟨_,rfl,(di a6 hk (fun b e=>by simp only[Value.ownBlock]at e;obtain rfl:=Option.some.inj e;exact a4)).cells (g:=g) rfl⟩
 rintro e w3 ⟨rfl,HL⟩
 obtain⟨b1,b2⟩:=HL.out
 have hs3:=b2.size
 have hne:∀b,w.heap.size<=b->b<w.heap.size+2->¬M' b:=fun b x1 x2 hm=>by
  rcases hM' b hm with k|k<;>omega
 have hblk:∀b,w.heap.size<=b->b<w.heap.size+2->w3.heap[b]? =w'.heap[b]? :=fun b x1 x2=>(b2.block b (by omega) (hne b x1 x2)).trans (a2.block b (by omega) (fun hm=>by omega))
 refine⟨rfl,fun j=>aK (hblk _ (Nat.le_refl _) (by omega)) j, ?_, ?_⟩
 ·obtain⟨tv,mb,D,k1,_⟩:=b1
  exact k1.cells.1.1
 have bd:Below w3.heap.size w3 w3.drew:=(Below.refl _ _).drew
 have b3:=b1.kept (aD bd (fun _=>False)) (fun _ _ _ h=>h)
 obtain⟨mb,c1,w4,c2,c3,c4,c5,c6,c7⟩:=N8 b3 p (fC (iO ws n) (partsOf ws p ps.length) S).2.1.length (by omega) (by omega) (by simp only;omega)
 have hmb:∀b,w.heap.size<=b->b<w.heap.size+2->b≠mb:=fun b x1 x2 e=>by
  subst e
  rcases c5 with k|k
  ·exact hne _ x1 x2 k
  ·omega
 have hs4:=c4.size
 have es3:w3.drew.heap.size=w3.heap.size:=rfl
 have hblk4:∀b,w.heap.size<=b->b<w.heap.size+2->w4.heap[b]? =w'.heap[b]? :=fun b x1 x2=>(c4.block b (by omega) (hmb b x1 x2)).trans (hblk b x1 x2)
 refine⟨mb,w4,c1,c2,fun j=>aK (hblk4 _ (Nat.le_refl _) (by omega)) j,c7,fun hj=>(hblk4 _ (by omega) (by omega)).trans hj,fun v0 v1=> ?_⟩
 have k1:=aI w4 (w.heap.size+1) 0 v0
 have k2:=aI (w4.setCell ⟨w.heap.size+1,0,none⟩ v0) (w.heap.size+1) 1 v1
 have k3:=k1.trans k2 (fun b _ h=>h)
 refine⟨(c3.kept k3 ?_).mono ?_, ?_⟩
 ·rintro b (hm|hm) _ rfl
  ·exact hne _ (by omega) (by omega) hm
  ·omega
 ·rintro b (hm|hm)
  ·rcases hM' b hm with k|k
   ·exact Or.inl k.1
   ·exact Or.inr (by omega)
  ·exact Or.inr (by omega)
 ·refine(((((aD hD M).trans a2 ?_).trans b2 ?_).trans (aD bd (fun _=>False)) ?_).trans c4 ?_).trans k3 ?_
  ·exact fun b _ hm=>hm.1
  ·intro b hb hm
   rcases hM' b hm with k|k
   ·exact k.1
   ·omega
  ·exact fun _ _ h=>h.elim
  ·rintro b hb rfl
   rcases c5 with k|k
   ·rcases hM' _ k with k|k
    ·exact k.1
    ·omega
   ·omega
  ·intro b hb h
   omega
theorem NH (ws:List Wd) (nm:List ByteArray) (n:Nat):PD ws nm n:=by
 induction n with
 | zero=>intro x v base cb b0 fv S M w _ _ _ _ hs;exact hs.elim
 | succ n ih=>
  intro x v base cb b0 fv S M w h hrow hfm hbw hs hr hws hz hn
  have hg:=hr (aL n x) (by simp[nodes,aL])
  have hlen:x.2.2.length<=8:=ky (aL n x) hg
  have k5:(nodes (n+1) x).length=1+(x.2.2.flatMap fun y=>nodes n y).length:=by simp[nodes];omega
  by_cases h4:x.1.1=4
  ·obtain⟨p,rfl,hp,hl,hst⟩:=iy hs h4
   cases hk:look S.2 p with
   | some q=>
    rw[Ga hk]
    refine(NV base cb fv S M p q w h hk (by omega)).mono ?_
    rintro e w' ⟨rfl,hb⟩
    exact⟨rfl,vX h hb⟩
   | none=>
    rw[zQ hk hp]
    have e:sz (n+1) x=1+(x.2.2.map fun y=>1+sz n y).sum:=by simp only[sz,if_pos h4]
    exact Oj ws nm n ih x.2.2 p base cb b0 fv S M w h hrow hfm hbw hp hl hst (fun y hy=>aH n x y hr hy) hlen hws (by omega) (by omega) hk
  ·have hv:=gU hs h4
   rw[vB hv]
   refine(JQ cb v.1 v.2 w hv).mono ?_
   rintro e w' ⟨rfl,hb⟩
   exact⟨rfl,vX h hb⟩
theorem NE (w:World) (fv:Value):CpAt w.heap.size (w.heap.size+1) fv ([],[]) (fun b=>w.heap.size<=b) ((w.alloc (.map #[] 0)).alloc (.cells #[fv,.slice none 0 0,.map (some w.heap.size)] 224)):=by
 have hm:=World.ownsMap_made w Tryz.prog 3 (plainElem (H:=Unit) Tryz.prog 3)
 have es:∀o,(w.alloc o).heap.size=w.heap.size+1:=fun o=>by simp
 have hb:=heap_alloc_new (w.alloc (.map #[] 0)) (.cells #[fv,.slice none 0 0,.map (some w.heap.size)] 224)
 rw[es]at hb
 exact⟨.slice none 0 0,w.heap.size,.map [],hb,World.ownsRow_nil _ _ _ _,hm.alloc _,Lu,by omega,fun b e=>by simp[Value.ownBlock]at e,Nat.le_refl _⟩
def jL (R:List Wd×List Wd×bI) (len g:Nat) (tv:Value) (w w':World):Prop:=
 Below w.heap.size w w'/\w'.ownsRow w.heap.size 119 2 tv R.2.1.length (az R.2.1)/\w'.ownsRow g 119 2 (.slice (some ⟨g,0,none⟩) len len) len (az R.1)/\w.heap.size<=g/\tv.ownBlock≠some g
theorem yT (R:List Wd×List Wd×bI) (fv:Value) (ta:Option Addr) (L tc:Nat) (a:Option Addr) (len pc:Nat) (w:World) (hfv:fv=.slice ta L tc)
    (HC:Hid (Calls Tryz.prog 146 #[.pointer (some ⟨w.heap.size+1,0,none⟩),.slice a len pc] ((w.alloc (.map #[] 0)).alloc (.cells #[.slice ta L tc,.slice none 0 0,.map (some w.heap.size)] 224)) fun e w'=>∃g tv,e=.returned (.slice (some ⟨g,0,none⟩) len len)/\w'.cell? ⟨w.heap.size+1,1,none⟩=some tv/\Hid (jL R len g tv w w'))):
    Calls Tryz.prog 139 #[fv,.slice a len pc] w fun e w'=>∃g tv,e=.returned (.tuple #[tv,.slice (some ⟨g,0,none⟩) len len])/\Hid (jL R len g tv w w'):=by
 subst hfv
 have hmm:= @run_makeMap Tryz.prog
 go_enter Tryz.func139,Tryz.ntmps139
 go_wp2_with fail
 refine HC.out.mono ?_
 rintro e w1 ⟨g,tv,rfl,c1,H⟩
 clear HC hmm
 go_wp2_with fail
 exact bodyPost_ret (v:=.tuple #[tv,.slice (some ⟨g,0,none⟩) len len]) (by simp[results,Tryz.results139,go_sem]) rfl ⟨g,tv,rfl,H⟩
theorem BZ (ws:List Wd) (nm:List ByteArray) (n:Nat) (vs:List Wd) (p:List (Tm n)) (b0:Nat) (fv:Value) (a:Option Addr) (pc:Nat) (w:World) (hrow:w.ownsRow b0 119 2 fv ws.length (az ws)) (hst:StandL ws nm n vs p) (hr:∀y∈p,ai ⟨n,y⟩) (hws:ws.length<=100000) (hlen:vs.length<=100000)
    (hz:(p.map fun y=>1+sz n y).sum<=90000) (hn:(p.flatMap fun y=>nodes n y).length<=90000) (hin:dG w vs a) (hoff:∀b o,a=some ⟨b,o,none⟩->b<w.heap.size):
    Calls Tryz.prog 139 #[fv,.slice a vs.length pc] w fun e w'=>∃g tv,e=.returned (.tuple #[tv,.slice (some ⟨g,0,none⟩) vs.length vs.length])/\Hid (jL (fC (iO ws n) vs ([],[])) vs.length g tv w w'):=by
 obtain⟨ta,tc,hfv⟩:∃ta tc,fv=.slice ta ws.length tc:=by
  rcases hrow.2 with⟨e,e0⟩|⟨g,c,cur,e,_⟩
  ·exact⟨none,0,by rw[e,e0]⟩
  ·exact⟨_,c,e⟩
 refine yT _ fv ta ws.length tc a vs.length pc w hfv ?_
 have hA:Below w.heap.size w ((w.alloc (.map #[] 0)).alloc (.cells #[fv,.slice none 0 0,.map (some w.heap.size)] 224)):=((Below.refl _ _).alloc (Nat.le_refl _) _).alloc (by simp) _
 have hc:=NE w fv
 have hsA:((w.alloc (.map #[] 0)).alloc (.cells #[fv,.slice none 0 0,.map (some w.heap.size)] 224)).heap.size=w.heap.size+2:=by simp
 rw[<-hfv]
 generalize (w.alloc (.map #[] 0)).alloc (.cells #[fv,.slice none 0 0,.map (some w.heap.size)] 224)=wA at*
 have hinA:dG wA vs a:=by
  rcases hin with hin|⟨b,o,e,hb,hin⟩
  ·exact Or.inl hin
  ·exact Or.inr ⟨b,o,e,by omega,fun i v hv=>⟨(af hA b _ hb).trans (hin i v hv).1,(af hA b _ hb).trans (hin i v hv).2⟩⟩
 refine(si ws nm n (NH ws nm n) vs p w.heap.size (w.heap.size+1) b0 fv ([],[]) _ a pc wA hc (own_below hrow hA) (fun b e hm=>by have:=(hrow.lt b e).2;omega) (by omega) hst hr hws hlen (by simpa using hz) (by simpa using hn) hinA ?_).mono ?_
 ·intro b o e hm
  have:=hoff b o e
  omega
 ·rintro e w' ⟨g,rfl,H⟩
  obtain⟨M',k1,k2,k3,k4,k5,k6⟩:=H.out
  obtain⟨tv,mb,D,j1,j2,j3,j4,j5,j6,j7⟩:=k1
  refine⟨g,tv,rfl,j1.cells.1.2.1,⟨?_, ?_, ?_, ?_, ?_⟩,j2,k6,by omega,fun e=>k4 (j6 g e)⟩
  ·exact k2.os.trans hA.os
  ·exact k2.tape.trans hA.tape
  ·exact k2.output.trans hA.output
  ·have:=k2.size;omega
  ·intro b hb
   exact(k2.block b (by omega) (by omega)).trans (hA.block b hb)
end Go.Proofs.YtmbjgiaebneodaaGreat
