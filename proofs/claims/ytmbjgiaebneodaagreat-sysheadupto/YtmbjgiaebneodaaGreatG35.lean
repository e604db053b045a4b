/- What is proved here: code.readAll at acts, clauses and behaviours, from what the reader of one does: what it returns is a new row of what is read, or false where one can't be. Condition: at most 8 terms. -/
import Derived.Test.YtmbjgiaebneodaaGreatG34
namespace Go.Proofs.YtmbjgiaebneodaaGreat
open Go.RowKit
set_option maxHeartbeats 4000000
set_option maxRecDepth 100000
theorem mD {l:List Value} (h:l.all (fun u=>u.oneCell')=true):∀u∈l,u.oneCell'=true:=fun u hu=>by
 rw[List.all_eq_true]at h
 exact h u hu
def QE {α:Type} {n:Nat} (I:Nat->World->α->Prop) (O:(Nat->Prop)->α->Prop) (S:α->α->Prop) (f:α->List Value) (kk:Nat) (T:TypeId) (g:Tm n->Option α) (p:List (Tm n)) (w:World) (k:Nat) (v:Value) (wr:World):Prop:=
 ∃(xs zs:List α),xs.length=k/\Grow I O f kk T 0 w.heap.size xs v w wr/\bF g (p.take k)=some zs/\RelL S xs zs
theorem Grow.slice {α:Type} {I:Nat->World->α->Prop} {O:(Nat->Prop)->α->Prop} {f:α->List Value} {k:Nat} {T:TypeId} {B base:Nat} {xs:List α} {v:Value} {w0 wr:World} (h:Grow I O f k T B base xs v w0 wr):∃a c,v=.slice a xs.length c:=by
 rcases h.2.1.2 with⟨rfl,h0⟩|⟨g,cap,cur,rfl,_⟩
 ·exact⟨none,0,by rw[h0]⟩
 ·exact⟨_,_,rfl⟩
theorem NR:(Tryz.prog.info? 74).map (fun i=>(i.zero,i.size,i.bytes))=some (some (.agg #[.int .i64 0,.int .i64 0,.int .i64 0,.string .empty,.slice none 0 0,.int .i64 0,.int .i64 0,.string .empty,.slice none 0 0,.string .empty,.int .i64 0]),11,144):=by kernel_rfl
theorem JS (n:Nat) (y:Ac n):∀u∈eG n y,u.oneCell'=true:=mD rfl
theorem Ap (M n:Nat) (p:List (Tm n)) (len:Nat) (hpl:Hid (p.length=len)) (hlen:len<=8) (a:Option Addr) (pc B:Nat) (w:World) (hp:Hid (Lies B w n p a)) (hB:B<=w.heap.size)
    (H:Hid (∀x∈p,∀w1,Below w.heap.size w w1->Calls Tryz.prog 115 #[val n x] w1 (pQ (eG (M+1)) (AcIn (M+1)) (kG (M+1)) (ES (M+1)) (rz M n x) w1))):
    Calls Tryz.prog 114 #[.slice a len pc,.func (Fn.func 115) #[] #[]] w (jR 11 (eG (M+1)) (AcIn (M+1)) (kG (M+1)) (ES (M+1)) (bF (rz M n) p) w):=by
 obtain⟨it,hit,htz0,htz1,htz2⟩:=info_parts NR
 have HT:=hide (⟨hit,htz0,htz1,htz2⟩:_/\_/\_/\_)
 clear hit htz0 htz1 htz2
 have HS:=hide (dW (M+1))
 go_enter Tryz.func114,Tryz.ntmps114
 go_wp2_with fail
 go_loopw [6,13] (fun v i wr=>∃(k:Nat) (u:Value),k<=len/\i=.int .i64 k/\u=v/\Hid (QE (AcIn (M+1)) (kG (M+1)) (ES (M+1)) (eG (M+1)) 11 74 (rz M n) p w k u wr)) (fun _ i _=>len-(intOf i).toNat)
 case atStart=>exact⟨0,_,by omega,rfl,rfl,[],[],rfl,Grow.nil _,by simp[bF],RelL.nil⟩
 case round=>
  obtain⟨k,v,hk,rfl,rfl,HR⟩:=hrel
  obtain⟨xs,zs,HL,HG,HV,HRL⟩:∃(xs zs:List (Ac (M+1))),Hid (xs.length=k)/\Hid (Grow (AcIn (M+1)) (kG (M+1)) (eG (M+1)) 11 74 0 w.heap.size xs v w wr)/\Hid (bF (rz M n) (p.take k)=some zs)/\Hid (RelL (ES (M+1)) xs zs):=HR.out
  clear HR
  have hbw:w.heap.size<=wr.heap.size:=HG.out.1.size
  obtain⟨va,vc,hv⟩:=HG.out.slice
  rw[HL.out]at hv
  subst hv
  by_cases hlt:k<len
  ·obtain⟨x,hx⟩:∃x,p[k]? =some x:=⟨p[k]'(by rw[hpl.out];exact hlt),List.getElem?_eq_getElem _⟩
   have HX:=hide hx
   rcases(hp.out.below (HG.out.1.mono hB))with hp|⟨pb,po,rfl,hpb,hp⟩
   ·subst hp;simp at hx
   obtain⟨hx1,hx2⟩:=hp k x hx
   have HC:Hid (∀w1,Below wr.heap.size wr w1->Calls Tryz.prog 115 #[val n x] w1 (pQ (eG (M+1)) (AcIn (M+1)) (kG (M+1)) (ES (M+1)) (rz M n x) w1)):=fun w1 h1=>H.out x (List.mem_of_getElem? hx) w1 (HG.out.1.trans (h1.mono hbw))
   obtain⟨o,ho⟩:∃o,rz M n x=o:=⟨_,rfl⟩
   rw[ho]at HC
   have HO:=hide ho
   have hpw:pb<wr.heap.size:=by omega
   clear hp hx ho hx2
   cases n with
   | zero=>exact hx1.elim
   | succ n=>
   obtain⟨x0,x1,x2,x3⟩:=hx1
   have e3:val (n+1) x=.agg #[.int .i64 x.1.1,.int .i64 x.1.2.1,.string x.1.2.2,.slice x.2.1.1 x.2.2.length x.2.1.2]:=rfl
   rw[e3]at HC
   clear e3
   have hk1:(0:Int)<=(k:Int):=by omega
   have hk2:(k:Int)<(len:Int):=by omega
   go_wp2_with fail
   refine(HC.out _ au).mono ?_
   rintro e w3 ⟨y,r,rfl,HY⟩
   have HB3:Hid (Below wr.heap.size wr w3):=au.trans (HY.out.1.mono (by simp))
   have h3s:wr.heap.size<=w3.heap.size:=HB3.out.size
   have e4:Value.agg (eG (M+1) y).toArray=.agg #[.int .i64 y.1,.int .i64 y.2.1.1.1.1,.int .i64 y.2.1.1.1.2.1,.string y.2.1.1.1.2.2,.slice y.2.1.1.2.1.1 y.2.1.1.2.2.length y.2.1.1.2.1.2,.int .i64 y.2.1.2.1.1,.int .i64 y.2.1.2.1.2.1,.string y.2.1.2.1.2.2,.slice y.2.1.2.2.1.1 y.2.1.2.2.2.length y.2.1.2.2.1.2,.string y.2.2.1,.int .i64 y.2.2.2]:=rfl
   rw[e4]
   clear e4 HC x0 x1 x2 x3
   cases r
   ·have HF:Hid (jR 11 (eG (M+1)) (AcIn (M+1)) (kG (M+1)) (ES (M+1)) (bF (rz M (n+1)) p) w (.returned (.tuple #[.slice none 0 0,.bool false])) (w3.alloc (.cells #[.int .i64 y.1,.int .i64 y.2.1.1.1.1,.int .i64 y.2.1.1.1.2.1,.string y.2.1.1.1.2.2,.slice y.2.1.1.2.1.1 y.2.1.1.2.2.length y.2.1.1.2.1.2,.int .i64 y.2.1.2.1.1,.int .i64 y.2.1.2.1.2.1,.string y.2.1.2.1.2.2,.slice y.2.1.2.2.1.1 y.2.1.2.2.2.length y.2.1.2.2.1.2,.string y.2.2.1,.int .i64 y.2.2.2] 74))):=by
      have hn:bF (rz M (n+1)) p=none:=kE _ p k x HX.out (by
       have h1:=HY.out.2.1
       rw[HO.out]
       cases o with
       | none=>rfl
       | some z=>cases h1)
      have hb:Below w.heap.size w w3:=HG.out.1.trans (HB3.out.mono hbw)
      refine⟨[],none,0,false,rfl,hb.trans (au.mono hb.size),by rw[hn];rfl,⟨Nat.le_refl _,Nat.zero_le _⟩,Or.inl rfl,Or.inl rfl,fun z hz=>by rw[hn]at hz;cases hz⟩
    clear HY HG
    go_wp2_with fail
    exact bodyPost_ret (v:=.tuple #[.slice none 0 0,.bool false]) (by simp[results,Tryz.results114,go_sem]) rfl HF.out
   ·have HST:=fun(o1 o2:Obj) (g c:Nat) (w4:World) hown hgrow hat=>hide (Grow.step HS.out (T:=74) (w1:=(w3.alloc o1).alloc o2) (w2:=w4) (g:=g) (c:=c) HG.out (Nat.zero_le _) hbw (HB3.out.trans ((au.trans (au.mono (by simp))).mono h3s)) y (HS.out.mono (by simp;omega) (HS.out.below (au.trans (au.mono (by simp))) HY.out.2.2.1)) (HS.out.1 _ _ _ (fun b hb=>Or.inr (by simp at hb;omega)) HY.out.2.2.2.1) hown hgrow hat)
    have HOWN:=fun(o1 o2:Obj)=>hide (own_below HG.out.2.1 (HB3.out.trans ((au.trans (au.mono (by simp)):Below w3.heap.size w3 ((w3.alloc o1).alloc o2)).mono h3s)))
    rw[HL.out]at HST HOWN
    go_wp2_with (at_builtin;refine wpList_append_lies _ rfl _ _ 75 rfl w.heap.size 74 it _ 11 144 Tryz.underlying75 HT.out.1 HT.out.2.1 HT.out.2.2.1 HT.out.2.2.2 rfl (by decide) (.slice va k vc) k (xs.flatMap (eG (M+1))) (by simp[Act.eval]) (HOWN _ _).out ⟨w3.heap.size+1,0,none⟩ 1 1 (eG (M+1) y) (by simp[Act.eval]) rfl (World.news_of_block (cs:= #[.int .i64 y.1,.int .i64 y.2.1.1.1.1,.int .i64 y.2.1.1.1.2.1,.string y.2.1.1.1.2.2,.slice y.2.1.1.2.1.1 y.2.1.1.2.2.length y.2.1.1.2.1.2,.int .i64 y.2.1.2.1.1,.int .i64 y.2.1.2.1.2.1,.string y.2.1.2.1.2.2,.slice y.2.1.2.2.1.1 y.2.1.2.2.2.length y.2.1.2.2.1.2,.string y.2.2.1,.int .i64 y.2.2.2]) (t:=74) (fr:=(0,0)) (by have h:=heap_alloc_new (w3.alloc (.cells #[.int .i64 y.1,.int .i64 y.2.1.1.1.1,.int .i64 y.2.1.1.1.2.1,.string y.2.1.1.1.2.2,.slice y.2.1.1.2.1.1 y.2.1.1.2.2.length y.2.1.1.2.1.2,.int .i64 y.2.1.2.1.1,.int .i64 y.2.1.2.1.2.1,.string y.2.1.2.1.2.2,.slice y.2.1.2.2.1.1 y.2.1.2.2.2.length y.2.1.2.2.1.2,.string y.2.2.1,.int .i64 y.2.2.2] 74)) (.cells #[.int .i64 y.1,.int .i64 y.2.1.1.1.1,.int .i64 y.2.1.1.1.2.1,.string y.2.1.1.1.2.2,.slice y.2.1.1.2.1.1 y.2.1.1.2.2.length y.2.1.1.2.1.2,.int .i64 y.2.1.2.1.1,.int .i64 y.2.1.2.1.2.1,.string y.2.1.2.1.2.2,.slice y.2.1.2.2.1.1 y.2.1.2.2.2.length y.2.1.2.2.1.2,.string y.2.2.1,.int .i64 y.2.2.2] 74);simp only[World.size_alloc]at h;exact h)) (JS _ _) (by decide) (by unfold maxLen;omega) (by omega) (by simp;omega) (w3.heap.size+1+1) (by simp) ?_;intro g4 c4 w4 hown4 hgrow4 hat4 hlt4;have HS4:=HST _ _ g4 c4 w4 hown4 hgrow4 (by simpa using hat4);clear hown4 hgrow4 hat4)
    have HE:Hid (∃z,o=some z/\ES (M+1) y z):=by
     have h1:=HY.out.2.1
     cases o with
     | none=>cases h1
     | some z=>exact⟨z,rfl,HY.out.2.2.2.2 z rfl⟩
    obtain⟨z,hz,hyz⟩:=HE.out
    have HO2:=hide (HO.out.trans hz)
    go_roundw
    case rel=>exact⟨k+1,_,by omega,by go_num,rfl,xs++ [y],zs++ [z],by simp[HL.out],HS4.out,rq _ _ _ _ HX.out _ _ HV.out HO2.out,HRL.out.snoc hyz⟩
    case measure=>simp[intOf];omega
  ·have HF:Hid (jR 11 (eG (M+1)) (AcIn (M+1)) (kG (M+1)) (ES (M+1)) (bF (rz M n) p) w (.returned (.tuple #[.slice va k vc,.bool true])) wr):=by
     have hV:bF (rz M n) p=some zs:=by have h:=HV.out;rw[List.take_of_length_le (by rw[hpl.out];omega)]at h;exact h
     obtain⟨a',c',e',hc,hl,ho⟩:=Grow.lay (f:=eG (M+1)) (k:=11) HS.out (fun _=>rfl) HG.out
     rw[HL.out]at e'
     injection e' with e1 e2 e3
     subst e1 e3
     refine⟨xs,va,vc,true,by rw[HL.out],HG.out.1,by rw[hV];rfl,hc,hl, ?_,fun z hz=>by rw[hV]at hz;obtain rfl:=Option.some.inj hz;exact HRL.out⟩
     exact(bi HS.out 11 (eG (M+1)) va).1 _ _ _ (fun b hb=>by omega) ho
   clear HG
   go_wp2_with fail
   exact bodyPost_ret (v:=.tuple #[.slice va k vc,.bool true]) (by simp[results,Tryz.results114,go_sem]) rfl HF.out
theorem E5:(Tryz.prog.info? 77).map (fun i=>(i.zero,i.size,i.bytes))=some (some (.agg #[.int .i64 0,.int .i64 0,.string .empty,.slice none 0 0,.int .i64 0,.int .i64 0,.string .empty,.slice none 0 0,.slice none 0 0,.int .i64 0,.int .i64 0,.string .empty,.slice none 0 0]),13,192):=by kernel_rfl
theorem Lt (n:Nat) (y:Cl n):∀u∈dJ n y,u.oneCell'=true:=mD rfl
theorem tT (M n:Nat) (p:List (Tm n)) (len:Nat) (hpl:Hid (p.length=len)) (hlen:len<=8) (a:Option Addr) (pc B:Nat) (w:World) (hp:Hid (Lies B w n p a)) (hB:B<=w.heap.size)
    (H:Hid (∀x∈p,∀w1,Below w.heap.size w w1->Calls Tryz.prog 95 #[val n x] w1 (pQ (dJ (M+1)) (fM (M+1)) (iV (M+1)) (Dq (M+1)) (Am M n x) w1))):
    Calls Tryz.prog 94 #[.slice a len pc,.func (Fn.func 95) #[] #[]] w (jR 13 (dJ (M+1)) (fM (M+1)) (iV (M+1)) (Dq (M+1)) (bF (Am M n) p) w):=by
 obtain⟨it,hit,htz0,htz1,htz2⟩:=info_parts E5
 have HT:=hide (⟨hit,htz0,htz1,htz2⟩:_/\_/\_/\_)
 clear hit htz0 htz1 htz2
 have HS:=hide (dA (M+1))
 go_enter Tryz.func94,Tryz.ntmps94
 go_wp2_with fail
 go_loopw [6,13] (fun v i wr=>∃(k:Nat) (u:Value),k<=len/\i=.int .i64 k/\u=v/\Hid (QE (fM (M+1)) (iV (M+1)) (Dq (M+1)) (dJ (M+1)) 13 77 (Am M n) p w k u wr)) (fun _ i _=>len-(intOf i).toNat)
 case atStart=>exact⟨0,_,by omega,rfl,rfl,[],[],rfl,Grow.nil _,by simp[bF],RelL.nil⟩
 case round=>
  obtain⟨k,v,hk,rfl,rfl,HR⟩:=hrel
  obtain⟨xs,zs,HL,HG,HV,HRL⟩:∃(xs zs:List (Cl (M+1))),Hid (xs.length=k)/\Hid (Grow (fM (M+1)) (iV (M+1)) (dJ (M+1)) 13 77 0 w.heap.size xs v w wr)/\Hid (bF (Am M n) (p.take k)=some zs)/\Hid (RelL (Dq (M+1)) xs zs):=HR.out
  clear HR
  have hbw:w.heap.size<=wr.heap.size:=HG.out.1.size
  obtain⟨va,vc,hv⟩:=HG.out.slice
  rw[HL.out]at hv
  subst hv
  by_cases hlt:k<len
  ·obtain⟨x,hx⟩:∃x,p[k]? =some x:=⟨p[k]'(by rw[hpl.out];exact hlt),List.getElem?_eq_getElem _⟩
   have HX:=hide hx
   rcases(hp.out.below (HG.out.1.mono hB))with hp|⟨pb,po,rfl,hpb,hp⟩
   ·subst hp;simp at hx
   obtain⟨hx1,hx2⟩:=hp k x hx
   have HC:Hid (∀w1,Below wr.heap.size wr w1->Calls Tryz.prog 95 #[val n x] w1 (pQ (dJ (M+1)) (fM (M+1)) (iV (M+1)) (Dq (M+1)) (Am M n x) w1)):=fun w1 h1=>H.out x (List.mem_of_getElem? hx) w1 (HG.out.1.trans (h1.mono hbw))
   obtain⟨o,ho⟩:∃o,Am M n x=o:=⟨_,rfl⟩
   rw[ho]at HC
   have HO:=hide ho
   have hpw:pb<wr.heap.size:=by omega
   clear hp hx ho hx2
   cases n with
   | zero=>exact hx1.elim
   | succ n=>
   obtain⟨x0,x1,x2,x3⟩:=hx1
   have e3:val (n+1) x=.agg #[.int .i64 x.1.1,.int .i64 x.1.2.1,.string x.1.2.2,.slice x.2.1.1 x.2.2.length x.2.1.2]:=rfl
   rw[e3]at HC
   clear e3
   have hk1:(0:Int)<=(k:Int):=by omega
   have hk2:(k:Int)<(len:Int):=by omega
   go_wp2_with fail
   refine(HC.out _ au).mono ?_
   rintro e w3 ⟨y,r,rfl,HY⟩
   have HB3:Hid (Below wr.heap.size wr w3):=au.trans (HY.out.1.mono (by simp))
   have h3s:wr.heap.size<=w3.heap.size:=HB3.out.size
   have e4:Value.agg (dJ (M+1) y).toArray=.agg #[.int .i64 y.1.1.1.1,.int .i64 y.1.1.1.2.1,.string y.1.1.1.2.2,.slice y.1.1.2.1.1 y.1.1.2.2.length y.1.1.2.1.2,.int .i64 y.1.2.1.1.1,.int .i64 y.1.2.1.1.2.1,.string y.1.2.1.1.2.2,.slice y.1.2.1.2.1.1 y.1.2.1.2.2.length y.1.2.1.2.1.2,.slice y.2.1.1 y.2.2.length y.2.1.2,.int .i64 y.1.2.2.1.1,.int .i64 y.1.2.2.1.2.1,.string y.1.2.2.1.2.2,.slice y.1.2.2.2.1.1 y.1.2.2.2.2.length y.1.2.2.2.1.2]:=rfl
   rw[e4]
   clear e4 HC x0 x1 x2 x3
   cases r
   ·have HF:Hid (jR 13 (dJ (M+1)) (fM (M+1)) (iV (M+1)) (Dq (M+1)) (bF (Am M (n+1)) p) w (.returned (.tuple #[.slice none 0 0,.bool false])) (w3.alloc (.cells #[.int .i64 y.1.1.1.1,.int .i64 y.1.1.1.2.1,.string y.1.1.1.2.2,.slice y.1.1.2.1.1 y.1.1.2.2.length y.1.1.2.1.2,.int .i64 y.1.2.1.1.1,.int .i64 y.1.2.1.1.2.1,.string y.1.2.1.1.2.2,.slice y.1.2.1.2.1.1 y.1.2.1.2.2.length y.1.2.1.2.1.2,.slice y.2.1.1 y.2.2.length y.2.1.2,.int .i64 y.1.2.2.1.1,.int .i64 y.1.2.2.1.2.1,.string y.1.2.2.1.2.2,.slice y.1.2.2.2.1.1 y.1.2.2.2.2.length y.1.2.2.2.1.2] 77))):=by
      have hn:bF (Am M (n+1)) p=none:=kE _ p k x HX.out (by
       have h1:=HY.out.2.1
       rw[HO.out]
       cases o with
       | none=>rfl
       | some z=>cases h1)
      have hb:Below w.heap.size w w3:=HG.out.1.trans (HB3.out.mono hbw)
      refine⟨[],none,0,false,rfl,hb.trans (au.mono hb.size),by rw[hn];rfl,⟨Nat.le_refl _,Nat.zero_le _⟩,Or.inl rfl,Or.inl rfl,fun z hz=>by rw[hn]at hz;cases hz⟩
    clear HY HG
    go_wp2_with fail
    exact bodyPost_ret (v:=.tuple #[.slice none 0 0,.bool false]) (by simp[results,Tryz.results94,go_sem]) rfl HF.out
   ·have HST:=fun(o1 o2:Obj) (g c:Nat) (w4:World) hown hgrow hat=>hide (Grow.step HS.out (T:=77) (w1:=(w3.alloc o1).alloc o2) (w2:=w4) (g:=g) (c:=c) HG.out (Nat.zero_le _) hbw (HB3.out.trans ((au.trans (au.mono (by simp))).mono h3s)) y (HS.out.mono (by simp;omega) (HS.out.below (au.trans (au.mono (by simp))) HY.out.2.2.1)) (HS.out.1 _ _ _ (fun b hb=>Or.inr (by simp at hb;omega)) HY.out.2.2.2.1) hown hgrow hat)
    have HOWN:=fun(o1 o2:Obj)=>hide (own_below HG.out.2.1 (HB3.out.trans ((au.trans (au.mono (by simp)):Below w3.heap.size w3 ((w3.alloc o1).alloc o2)).mono h3s)))
    rw[HL.out]at HST HOWN
    go_wp2_with (at_builtin;refine wpList_append_lies _ rfl _ _ 78 rfl w.heap.size 77 it _ 13 192 Tryz.underlying78 HT.out.1 HT.out.2.1 HT.out.2.2.1 HT.out.2.2.2 rfl (by decide) (.slice va k vc) k (xs.flatMap (dJ (M+1))) (by simp[Act.eval]) (HOWN _ _).out ⟨w3.heap.size+1,0,none⟩ 1 1 (dJ (M+1) y) (by simp[Act.eval]) rfl (World.news_of_block (cs:= #[.int .i64 y.1.1.1.1,.int .i64 y.1.1.1.2.1,.string y.1.1.1.2.2,.slice y.1.1.2.1.1 y.1.1.2.2.length y.1.1.2.1.2,.int .i64 y.1.2.1.1.1,.int .i64 y.1.2.1.1.2.1,.string y.1.2.1.1.2.2,.slice y.1.2.1.2.1.1 y.1.2.1.2.2.length y.1.2.1.2.1.2,.slice y.2.1.1 y.2.2.length y.2.1.2,.int .i64 y.1.2.2.1.1,.int .i64 y.1.2.2.1.2.1,.string y.1.2.2.1.2.2,.slice y.1.2.2.2.1.1 y.1.2.2.2.2.length y.1.2.2.2.1.2]) (t:=77) (fr:=(0,0)) (by have h:=heap_alloc_new (w3.alloc (.cells #[.int .i64 y.1.1.1.1,.int .i64 y.1.1.1.2.1,.string y.1.1.1.2.2,.slice y.1.1.2.1.1 y.1.1.2.2.length y.1.1.2.1.2,.int .i64 y.1.2.1.1.1,.int .i64 y.1.2.1.1.2.1,.string y.1.2.1.1.2.2,.slice y.1.2.1.2.1.1 y.1.2.1.2.2.length y.1.2.1.2.1.2,.slice y.2.1.1 y.2.2.length y.2.1.2,.int .i64 y.1.2.2.1.1,.int .i64 y.1.2.2.1.2.1,.string y.1.2.2.1.2.2,.slice y.1.2.2.2.1.1 y.1.2.2.2.2.length y.1.2.2.2.1.2] 77)) (.cells #[.int .i64 y.1.1.1.1,.int .i64 y.1.1.1.2.1,.string y.1.1.1.2.2,.slice y.1.1.2.1.1 y.1.1.2.2.length y.1.1.2.1.2,.int .i64 y.1.2.1.1.1,.int .i64 y.1.2.1.1.2.1,.string y.1.2.1.1.2.2,.slice y.1.2.1.2.1.1 y.1.2.1.2.2.length y.1.2.1.2.1.2,.slice y.2.1.1 y.2.2.length y.2.1.2,.int .i64 y.1.2.2.1.1,.int .i64 y.1.2.2.1.2.1,.string y.1.2.2.1.2.2,.slice y.1.2.2.2.1.1 y.1.2.2.2.2.length y.1.2.2.2.1.2] 77);simp only[World.size_alloc]at h;exact h)) (Lt _ _) (by decide) (by unfold maxLen;omega) (by omega) (by simp;omega) (w3.heap.size+1+1) (by simp) ?_;intro g4 c4 w4 hown4 hgrow4 hat4 hlt4;have HS4:=HST _ _ g4 c4 w4 hown4 hgrow4 (by simpa using hat4);clear hown4 hgrow4 hat4)
    have HE:Hid (∃z,o=some z/\Dq (M+1) y z):=by
     have h1:=HY.out.2.1
     cases o with
     | none=>cases h1
     | some z=>exact⟨z,rfl,HY.out.2.2.2.2 z rfl⟩
    obtain⟨z,hz,hyz⟩:=HE.out
    have HO2:=hide (HO.out.trans hz)
    go_roundw
    case rel=>exact⟨k+1,_,by omega,by go_num,rfl,xs++ [y],zs++ [z],by simp[HL.out],HS4.out,rq _ _ _ _ HX.out _ _ HV.out HO2.out,HRL.out.snoc hyz⟩
    case measure=>simp[intOf];omega
  ·have HF:Hid (jR 13 (dJ (M+1)) (fM (M+1)) (iV (M+1)) (Dq (M+1)) (bF (Am M n) p) w (.returned (.tuple #[.slice va k vc,.bool true])) wr):=by
     have hV:bF (Am M n) p=some zs:=by have h:=HV.out;rw[List.take_of_length_le (by rw[hpl.out];omega)]at h;exact h
     obtain⟨a',c',e',hc,hl,ho⟩:=Grow.lay (f:=dJ (M+1)) (k:=13) HS.out (fun _=>rfl) HG.out
     rw[HL.out]at e'
     injection e' with e1 e2 e3
     subst e1 e3
     refine⟨xs,va,vc,true,by rw[HL.out],HG.out.1,by rw[hV];rfl,hc,hl, ?_,fun z hz=>by rw[hV]at hz;obtain rfl:=Option.some.inj hz;exact HRL.out⟩
     exact(bi HS.out 13 (dJ (M+1)) va).1 _ _ _ (fun b hb=>by omega) ho
   clear HG
   go_wp2_with fail
   exact bodyPost_ret (v:=.tuple #[.slice va k vc,.bool true]) (by simp[results,Tryz.results94,go_sem]) rfl HF.out
theorem wY:(Tryz.prog.info? 80).map (fun i=>(i.zero,i.size,i.bytes))=some (some (.agg #[.string .empty,.slice none 0 0]),2,40):=by kernel_rfl
theorem MM (n:Nat) (y:Bh n):∀u∈nK n y,u.oneCell'=true:=mD rfl
theorem og (M n:Nat) (p:List (Tm n)) (len:Nat) (hpl:Hid (p.length=len)) (hlen:len<=8) (a:Option Addr) (pc B:Nat) (w:World) (hp:Hid (Lies B w n p a)) (hB:B<=w.heap.size)
    (H:Hid (∀x∈p,∀w1,Below w.heap.size w w1->Calls Tryz.prog 75 #[val n x] w1 (pQ (nK (M+1)) (nQ (M+1)) (iU (M+1)) (vW (M+1)) (zK M n x) w1))):
    Calls Tryz.prog 74 #[.slice a len pc,.func (Fn.func 75) #[] #[]] w (jR 2 (nK (M+1)) (nQ (M+1)) (iU (M+1)) (vW (M+1)) (bF (zK M n) p) w):=by
 obtain⟨it,hit,htz0,htz1,htz2⟩:=info_parts wY
 have HT:=hide (⟨hit,htz0,htz1,htz2⟩:_/\_/\_/\_)
 clear hit htz0 htz1 htz2
 have HS:=hide (dw (M+1))
 go_enter Tryz.func74,Tryz.ntmps74
 go_wp2_with fail
 go_loopw [6,13] (fun v i wr=>∃(k:Nat) (u:Value),k<=len/\i=.int .i64 k/\u=v/\Hid (QE (nQ (M+1)) (iU (M+1)) (vW (M+1)) (nK (M+1)) 2 80 (zK M n) p w k u wr)) (fun _ i _=>len-(intOf i).toNat)
 case atStart=>exact⟨0,_,by omega,rfl,rfl,[],[],rfl,Grow.nil _,by simp[bF],RelL.nil⟩
 case round=>
  obtain⟨k,v,hk,rfl,rfl,HR⟩:=hrel
  obtain⟨xs,zs,HL,HG,HV,HRL⟩:∃(xs zs:List (Bh (M+1))),Hid (xs.length=k)/\Hid (Grow (nQ (M+1)) (iU (M+1)) (nK (M+1)) 2 80 0 w.heap.size xs v w wr)/\Hid (bF (zK M n) (p.take k)=some zs)/\Hid (RelL (vW (M+1)) xs zs):=HR.out
  clear HR
  have hbw:w.heap.size<=wr.heap.size:=HG.out.1.size
  obtain⟨va,vc,hv⟩:=HG.out.slice
  rw[HL.out]at hv
  subst hv
  by_cases hlt:k<len
  ·obtain⟨x,hx⟩:∃x,p[k]? =some x:=⟨p[k]'(by rw[hpl.out];exact hlt),List.getElem?_eq_getElem _⟩
   have HX:=hide hx
   rcases(hp.out.below (HG.out.1.mono hB))with hp|⟨pb,po,rfl,hpb,hp⟩
   ·subst hp;simp at hx
   obtain⟨hx1,hx2⟩:=hp k x hx
   have HC:Hid (∀w1,Below wr.heap.size wr w1->Calls Tryz.prog 75 #[val n x] w1 (pQ (nK (M+1)) (nQ (M+1)) (iU (M+1)) (vW (M+1)) (zK M n x) w1)):=fun w1 h1=>H.out x (List.mem_of_getElem? hx) w1 (HG.out.1.trans (h1.mono hbw))
   obtain⟨o,ho⟩:∃o,zK M n x=o:=⟨_,rfl⟩
   rw[ho]at HC
   have HO:=hide ho
   have hpw:pb<wr.heap.size:=by omega
   clear hp hx ho hx2
   cases n with
   | zero=>exact hx1.elim
   | succ n=>
   obtain⟨x0,x1,x2,x3⟩:=hx1
   have e3:val (n+1) x=.agg #[.int .i64 x.1.1,.int .i64 x.1.2.1,.string x.1.2.2,.slice x.2.1.1 x.2.2.length x.2.1.2]:=rfl
   rw[e3]at HC
   clear e3
   have hk1:(0:Int)<=(k:Int):=by omega
   have hk2:(k:Int)<(len:Int):=by omega
   go_wp2_with fail
   refine(HC.out _ au).mono ?_
   rintro e w3 ⟨y,r,rfl,HY⟩
   have HB3:Hid (Below wr.heap.size wr w3):=au.trans (HY.out.1.mono (by simp))
   have h3s:wr.heap.size<=w3.heap.size:=HB3.out.size
   have e4:Value.agg (nK (M+1) y).toArray=.agg #[.string y.1,.slice y.2.1.1 y.2.2.length y.2.1.2]:=rfl
   rw[e4]
   clear e4 HC x0 x1 x2 x3
   cases r
   ·have HF:Hid (jR 2 (nK (M+1)) (nQ (M+1)) (iU (M+1)) (vW (M+1)) (bF (zK M (n+1)) p) w (.returned (.tuple #[.slice none 0 0,.bool false])) (w3.alloc (.cells #[.string y.1,.slice y.2.1.1 y.2.2.length y.2.1.2] 80))):=by
      have hn:bF (zK M (n+1)) p=none:=kE _ p k x HX.out (by
       have h1:=HY.out.2.1
       rw[HO.out]
       cases o with
       | none=>rfl
       | some z=>cases h1)
      have hb:Below w.heap.size w w3:=HG.out.1.trans (HB3.out.mono hbw)
      refine⟨[],none,0,false,rfl,hb.trans (au.mono hb.size),by rw[hn];rfl,⟨Nat.le_refl _,Nat.zero_le _⟩,Or.inl rfl,Or.inl rfl,fun z hz=>by rw[hn]at hz;cases hz⟩
    clear HY HG
    go_wp2_with fail
    exact bodyPost_ret (v:=.tuple #[.slice none 0 0,.bool false]) (by simp[results,Tryz.results74,go_sem]) rfl HF.out
   ·have HST:=fun(o1 o2:Obj) (g c:Nat) (w4:World) hown hgrow hat=>hide (Grow.step HS.out (T:=80) (w1:=(w3.alloc o1).alloc o2) (w2:=w4) (g:=g) (c:=c) HG.out (Nat.zero_le _) hbw (HB3.out.trans ((au.trans (au.mono (by simp))).mono h3s)) y (HS.out.mono (by simp;omega) (HS.out.below (au.trans (au.mono (by simp))) HY.out.2.2.1)) (HS.out.1 _ _ _ (fun b hb=>Or.inr (by simp at hb;omega)) HY.out.2.2.2.1) hown hgrow hat)
    have HOWN:=fun(o1 o2:Obj)=>hide (own_below HG.out.2.1 (HB3.out.trans ((au.trans (au.mono (by simp)):Below w3.heap.size w3 ((w3.alloc o1).alloc o2)).mono h3s)))
    rw[HL.out]at HST HOWN
    go_wp2_with (at_builtin;refine wpList_append_lies _ rfl _ _ 22 rfl w.heap.size 80 it _ 2 40 Tryz.underlying22 HT.out.1 HT.out.2.1 HT.out.2.2.1 HT.out.2.2.2 rfl (by decide) (.slice va k vc) k (xs.flatMap (nK (M+1))) (by simp[Act.eval]) (HOWN _ _).out ⟨w3.heap.size+1,0,none⟩ 1 1 (nK (M+1) y) (by simp[Act.eval]) rfl (World.news_of_block (cs:= #[.string y.1,.slice y.2.1.1 y.2.2.length y.2.1.2]) (t:=80) (fr:=(0,0)) (by have h:=heap_alloc_new (w3.alloc (.cells #[.string y.1,.slice y.2.1.1 y.2.2.length y.2.1.2] 80)) (.cells #[.string y.1,.slice y.2.1.1 y.2.2.length y.2.1.2] 80);simp only[World.size_alloc]at h;exact h)) (MM _ _) (by decide) (by unfold maxLen;omega) (by omega) (by simp;omega) (w3.heap.size+1+1) (by simp) ?_;intro g4 c4 w4 hown4 hgrow4 hat4 hlt4;have HS4:=HST _ _ g4 c4 w4 hown4 hgrow4 (by simpa using hat4);clear hown4 hgrow4 hat4)
    have HE:Hid (∃z,o=some z/\vW (M+1) y z):=by
     have h1:=HY.out.2.1
     cases o with
     | none=>cases h1
     | some z=>exact⟨z,rfl,HY.out.2.2.2.2 z rfl⟩
    obtain⟨z,hz,hyz⟩:=HE.out
    have HO2:=hide (HO.out.trans hz)
    go_roundw
    case rel=>exact⟨k+1,_,by omega,by go_num,rfl,xs++ [y],zs++ [z],by simp[HL.out],HS4.out,rq _ _ _ _ HX.out _ _ HV.out HO2.out,HRL.out.snoc hyz⟩
    case measure=>simp[intOf];omega
  ·have HF:Hid (jR 2 (nK (M+1)) (nQ (M+1)) (iU (M+1)) (vW (M+1)) (bF (zK M n) p) w (.returned (.tuple #[.slice va k vc,.bool true])) wr):=by
     have hV:bF (zK M n) p=some zs:=by have h:=HV.out;rw[List.take_of_length_le (by rw[hpl.out];omega)]at h;exact h
     obtain⟨a',c',e',hc,hl,ho⟩:=Grow.lay (f:=nK (M+1)) (k:=2) HS.out (fun _=>rfl) HG.out
     rw[HL.out]at e'
     injection e' with e1 e2 e3
     subst e1 e3
     refine⟨xs,va,vc,true,by rw[HL.out],HG.out.1,by rw[hV];rfl,hc,hl, ?_,fun z hz=>by rw[hV]at hz;obtain rfl:=Option.some.inj hz;exact HRL.out⟩
     exact(bi HS.out 2 (nK (M+1)) va).1 _ _ _ (fun b hb=>by omega) ho
   clear HG
   go_wp2_with fail
   exact bodyPost_ret (v:=.tuple #[.slice va k vc,.bool true]) (by simp[results,Tryz.results74,go_sem]) rfl HF.out
end Go.Proofs.YtmbjgiaebneodaaGreat
