/- Proved here: plain facts and contracts. No condition but what each names. -/
import Derived.Test.YtmmahddlcldmiaaGreatR08
import Derived.Laws.Tables
import Derived.Deep.DeepCutAuto
namespace Go.Proofs.YtmmahddlcldmiaaGreat
open Go.RowKit Go.Proofs.Tryz
set_option maxHeartbeats 4000000
set_option maxRecDepth 100000
theorem oP{l:cX}(b:l.all (λa=>a.oneCell')=true):∀a∈l,a.oneCell'=true:=λa c=>by
 rw[cJ]at b;exact b a c
def QE{a:Type}{n:Nat}(d:Nat->ag->a->Prop)(e:(Nat->Prop)->a->Prop)(S:a->a->Prop)(f:a->List au)(h:Nat)(T:TypeId)(g:Tm n->Option a)(p:List (Tm n))(w:ag)(k:Nat)(v:au)(wr:ag):Prop:=
 ∃(b c:List a),b.length=k/\fF d e f h T 0 w.heap.size b v w wr/\cZ g (p.take k)=some c/\fl S b c
theorem fF.slice{b:Type}{d:Nat->ag->b->Prop}{e:(Nat->Prop)->b->Prop}{f:b->List au}{k:Nat}{T:TypeId}{B base:Nat}{xs:List b}{v:au}{w0 wr:ag}(g:fF d e f k T B base xs v w0 wr):∃a c,v=ae a xs.length c:=by
 rcases g.2.1.2 with⟨rfl,h⟩|⟨j,cap,i,rfl,_⟩
 ·exact⟨none,0,by rw[h]⟩
 ·exact⟨_,_,rfl⟩
theorem Nm:(Tryz.prog.info? 248).map (λi=>(i.zero,i.size,i.bytes))=some (some (.agg #[ab 0,ab 0,ab 0,af .empty,ae none 0 0,ab 0,ab 0,af .empty,ae none 0 0,af .empty,ab 0]),11,144):=by kernel_rfl
theorem JM(n:Nat)(y:Ac n):∀a∈gH n y,a.oneCell'=true:=oP rfl
theorem Az(M n:Nat)(p:List (Tm n))(len:Nat)(aA:Hid (p.length=len))(bf:len<=8)(a:ar)(pc B:Nat)(w:ag)(r:Hid (fZ B w n p a))(aR:B<=w.heap.size)(H:Hid (∀x∈p,∀w1,am w w1->ao 182 #[dG n x] w1 (rA (gH (M+1)) (jd (M+1)) (mL (M+1)) (DC (M+1)) (tg M n x) w1))):ao 181 #[ae a len pc,.func (Fn.func 182) #[] #[]] w (mf 11 (gH (M+1)) (jd (M+1)) (mL (M+1)) (DC (M+1)) (cZ (tg M n) p) w):=by
 obtain⟨a1,aq,aB,aC,aE⟩:=bY Nm;have I:=ap (⟨aq,aB,aC,aE⟩:_/\_/\_/\_);clear aq aB aC aE;have q:=ap (f9 (M+1));go_enter func181,ntmps181;go_wp2_with fail;go_loopw [6,13] (λv O wr=>∃(k:Nat)(aH:au),k<=len/\O=ab k/\aH=v/\Hid (QE (jd (M+1)) (mL (M+1)) (DC (M+1)) (gH (M+1)) 11 248 (tg M n) p w k aH wr)) (λ_ O _=>len-(intOf O).toNat)
 case atStart=>exact⟨0,_,by omega,rfl,rfl,[],[],rfl,fF.nil _,by simp[cZ],fl.nil⟩
 case round=>
  obtain⟨k,v,bc,rfl,rfl,V⟩:=hrel;obtain⟨m,E,s,e,Y,W⟩:∃(m E:List (Ac (M+1))),Hid (m.length=k)/\Hid (fF (jd (M+1)) (mL (M+1)) (gH (M+1)) 11 248 0 w.heap.size m v w wr)/\Hid (cZ (tg M n) (p.take k)=some E)/\Hid (fl (DC (M+1)) m E):=V.out;clear V;have N:w.heap.size<=wr.heap.size:=e.out.1.size;obtain⟨D,K,aF⟩:=e.out.slice;rw[s.out]at aF;subst aF;by_cases aW:k<len
  ·obtain⟨x,C⟩:∃x,p[k]?=some x:=⟨p[k]'(by rw[aA.out];exact aW),aN _⟩;have Z:=ap C;rcases(r.out.below (e.out.1.mono aR))with r|⟨a2,po,rfl,bh,r⟩
   ·subst r;simp at C
   obtain⟨aG,aZ⟩:=r k x C;have G:Hid (∀w1,am wr w1->ao 182 #[dG n x] w1 (rA (gH (M+1)) (jd (M+1)) (mL (M+1)) (DC (M+1)) (tg M n x) w1)):=λw1 y=>H.out x (aL C) w1 (e.out.1.trans (y.mono N));obtain⟨o,A⟩:∃o,tg M n x=o:=⟨_,rfl⟩;rw[A]at G;have S:=ap A;have bi:a2<wr.heap.size:=by omega
   clear r C A aZ;cases n with
   | zero=>exact aG.elim
   | succ n=>
   obtain⟨a4,a5,a6,a7⟩:=aG;have J:dG (n+1) x=.agg #[ab x.1.1,ab x.1.2.1,af x.1.2.2,ae x.2.1.1 x.2.2.length x.2.1.2]:=rfl;rw[J]at G;clear J;have bd:(0:Int)<=(k:Int):=by omega
   have be:(k:Int)<(len:Int):=by omega
   go_wp2_with fail;refine(G.out _ aX).mono ?_;rintro ba h ⟨d,a3,rfl,j⟩;have F:Hid (am wr h):=aX.trans (j.out.1.mono (by simp));have ah:wr.heap.size<=h.heap.size:=F.out.size;have ad:Value.agg (gH (M+1) d).toArray=.agg #[ab d.1,ab d.2.1.1.1.1,ab d.2.1.1.1.2.1,af d.2.1.1.1.2.2,ae d.2.1.1.2.1.1 d.2.1.1.2.2.length d.2.1.1.2.1.2,ab d.2.1.2.1.1,ab d.2.1.2.1.2.1,af d.2.1.2.1.2.2,ae d.2.1.2.2.1.1 d.2.1.2.2.2.length d.2.1.2.2.1.2,af d.2.2.1,ab d.2.2.2]:=rfl;rw[ad];clear ad G a4 a5 a6 a7;cases a3
   ·have L:Hid (mf 11 (gH (M+1)) (jd (M+1)) (mL (M+1)) (DC (M+1)) (cZ (tg M (n+1)) p) w (.returned (.tuple #[ae none 0 0,.bool false])) (h.alloc (.cells #[ab d.1,ab d.2.1.1.1.1,ab d.2.1.1.1.2.1,af d.2.1.1.1.2.2,ae d.2.1.1.2.1.1 d.2.1.1.2.2.length d.2.1.1.2.1.2,ab d.2.1.2.1.1,ab d.2.1.2.1.2.1,af d.2.1.2.1.2.2,ae d.2.1.2.2.1.1 d.2.1.2.2.2.length d.2.1.2.2.1.2,af d.2.2.1,ab d.2.2.2] 248))):=by
      have aw:cZ (tg M (n+1)) p=none:=mQ _ p k x Z.out (by
       have y:=j.out.2.1;rw[S.out];cases o with
       | none=>rfl
       | some i=>cases y)
      have z:am w h:=e.out.1.trans (F.out.mono N);refine⟨[],none,0,false,rfl,z.trans (aX.mono z.size),by rw[aw];rfl,⟨av _,aM _⟩,aj rfl,aj rfl,λi l=>by rw[aw]at l;cases l⟩
    clear j e;go_wp2_with fail;exact ay (v:=.tuple #[ae none 0 0,.bool false]) (by simp[results,results181,go_sem]) rfl L.out
   ·have X:=λ(P Q:Obj)(g c:Nat)(R:ag) aY aU aS=>ap (fF.step q.out (T:=248) (w1:=(h.alloc P).alloc Q) (w2:=R) (g:=g) (c:=c) e.out (aM _) N (F.out.trans ((aX.trans (aX.mono (by simp))).mono ah)) d (q.out.mono (by simp;omega) (q.out.below (aX.trans (aX.mono (by simp))) j.out.2.2.1)) (q.out.1 _ _ _ (λb z=>ak (by simp at z;omega)) j.out.2.2.2.1) aY aU aS);have U:=λ(P Q:Obj)=>ap (ez e.out.2.1 (F.out.trans ((aX.trans (aX.mono (by simp)):am h ((h.alloc P).alloc Q)).mono ah)));rw[s.out]at X U;go_wp2_with (at_builtin;refine wpList_append_lies _ rfl _ _ 160 rfl w.heap.size 248 a1 _ 11 144 underlying160 I.out.1 I.out.2.1 I.out.2.2.1 I.out.2.2.2 rfl (by decide) (ae D k K) k (m.flatMap (gH (M+1))) (by simp[Act.eval]) (U _ _).out ⟨h.heap.size+1,0,none⟩ 1 1 (gH (M+1) d) (by simp[Act.eval]) rfl (World.news_of_block (cs:= #[ab d.1,ab d.2.1.1.1.1,ab d.2.1.1.1.2.1,af d.2.1.1.1.2.2,ae d.2.1.1.2.1.1 d.2.1.1.2.2.length d.2.1.1.2.1.2,ab d.2.1.2.1.1,ab d.2.1.2.1.2.1,af d.2.1.2.1.2.2,ae d.2.1.2.2.1.1 d.2.1.2.2.2.length d.2.1.2.2.1.2,af d.2.2.1,ab d.2.2.2]) (t:=248) (fr:=(0,0)) (by have u:=aD (h.alloc (.cells #[ab d.1,ab d.2.1.1.1.1,ab d.2.1.1.1.2.1,af d.2.1.1.1.2.2,ae d.2.1.1.2.1.1 d.2.1.1.2.2.length d.2.1.1.2.1.2,ab d.2.1.2.1.1,ab d.2.1.2.1.2.1,af d.2.1.2.1.2.2,ae d.2.1.2.2.1.1 d.2.1.2.2.2.length d.2.1.2.2.1.2,af d.2.2.1,ab d.2.2.2] 248)) (.cells #[ab d.1,ab d.2.1.1.1.1,ab d.2.1.1.1.2.1,af d.2.1.1.1.2.2,ae d.2.1.1.2.1.1 d.2.1.1.2.2.length d.2.1.1.2.1.2,ab d.2.1.2.1.1,ab d.2.1.2.1.2.1,af d.2.1.2.1.2.2,ae d.2.1.2.2.1.1 d.2.1.2.2.2.length d.2.1.2.2.1.2,af d.2.2.1,ab d.2.2.2] 248);simp only[ja]at u;exact u)) (JM _ _) (by decide) (by unfold maxLen;omega) (by omega) (by simp;omega) (h.heap.size+1+1) (by simp) ?_;intro aQ aO R ax an al bg;have aK:=X _ _ aQ aO R ax an (by simpa using al);clear ax an al);have aI:Hid (∃i,o=some i/\DC (M+1) d i):=by
     have y:=j.out.2.1;cases o with
     | none=>cases y
     | some i=>exact⟨i,rfl,j.out.2.2.2.2 i rfl⟩
    obtain⟨i,l,a0⟩:=aI.out;have aJ:=ap (S.out.trans l);go_roundw
    case rel=>exact⟨k+1,_,by omega,by go_num,rfl,m++ [d],E++ [i],by simp[s.out],aK.out,sM _ _ _ _ Z.out _ _ Y.out aJ.out,W.out.snoc a0⟩
    case measure=>simp[intOf];omega
  ·have L:Hid (mf 11 (gH (M+1)) (jd (M+1)) (mL (M+1)) (DC (M+1)) (cZ (tg M n) p) w (.returned (.tuple #[ae D k K,.bool true])) wr):=by
     have ai:cZ (tg M n) p=some E:=by have u:=Y.out;rw[bD (by rw[aA.out];omega)]at u;exact u
     obtain⟨a8,a9,aa,aT,aV,A⟩:=fF.lay (f:=gH (M+1)) (k:=11) q.out (λ_=>rfl) e.out;rw[s.out]at aa;injection aa with aP bb J;subst aP J;refine⟨m,D,K,true,by rw[s.out],e.out.1,by rw[ai];rfl,aT,aV,?_,λi l=>by rw[ai]at l;obtain rfl:=az l;exact W.out⟩;exact(cU q.out 11 (gH (M+1)) D).1 _ _ _ (λb z=>by omega) A
   clear e;go_wp2_with fail;exact ay (v:=.tuple #[ae D k K,.bool true]) (by simp[results,results181,go_sem]) rfl L.out
theorem Eb:(Tryz.prog.info? 162).map (λi=>(i.zero,i.size,i.bytes))=some (some (.agg #[ab 0,ab 0,af .empty,ae none 0 0,ab 0,ab 0,af .empty,ae none 0 0,ae none 0 0,ab 0,ab 0,af .empty,ae none 0 0]),13,192):=by kernel_rfl
theorem J5(n:Nat)(y:Cl n):∀a∈fy n y,a.oneCell'=true:=oP rfl
theorem ut(M n:Nat)(p:List (Tm n))(len:Nat)(aA:Hid (p.length=len))(bf:len<=8)(a:ar)(pc B:Nat)(w:ag)(r:Hid (fZ B w n p a))(aR:B<=w.heap.size)(H:Hid (∀x∈p,∀w1,am w w1->ao 144 #[dG n x] w1 (rA (fy (M+1)) (iE (M+1)) (ku (M+1)) (Dv (M+1)) (As M n x) w1))):ao 143 #[ae a len pc,.func (Fn.func 144) #[] #[]] w (mf 13 (fy (M+1)) (iE (M+1)) (ku (M+1)) (Dv (M+1)) (cZ (As M n) p) w):=by
 obtain⟨a1,aq,aB,aC,aE⟩:=bY Eb;have I:=ap (⟨aq,aB,aC,aE⟩:_/\_/\_/\_);clear aq aB aC aE;have q:=ap (eP (M+1));go_enter func143,ntmps143;go_wp2_with fail;go_loopw [6,13] (λv O wr=>∃(k:Nat)(aH:au),k<=len/\O=ab k/\aH=v/\Hid (QE (iE (M+1)) (ku (M+1)) (Dv (M+1)) (fy (M+1)) 13 162 (As M n) p w k aH wr)) (λ_ O _=>len-(intOf O).toNat)
 case atStart=>exact⟨0,_,by omega,rfl,rfl,[],[],rfl,fF.nil _,by simp[cZ],fl.nil⟩
 case round=>
  obtain⟨k,v,bc,rfl,rfl,V⟩:=hrel;obtain⟨m,E,s,e,Y,W⟩:∃(m E:List (Cl (M+1))),Hid (m.length=k)/\Hid (fF (iE (M+1)) (ku (M+1)) (fy (M+1)) 13 162 0 w.heap.size m v w wr)/\Hid (cZ (As M n) (p.take k)=some E)/\Hid (fl (Dv (M+1)) m E):=V.out;clear V;have N:w.heap.size<=wr.heap.size:=e.out.1.size;obtain⟨D,K,aF⟩:=e.out.slice;rw[s.out]at aF;subst aF;by_cases aW:k<len
  ·obtain⟨x,C⟩:∃x,p[k]?=some x:=⟨p[k]'(by rw[aA.out];exact aW),aN _⟩;have Z:=ap C;rcases(r.out.below (e.out.1.mono aR))with r|⟨a2,po,rfl,bh,r⟩
   ·subst r;simp at C
   obtain⟨aG,aZ⟩:=r k x C;have G:Hid (∀w1,am wr w1->ao 144 #[dG n x] w1 (rA (fy (M+1)) (iE (M+1)) (ku (M+1)) (Dv (M+1)) (As M n x) w1)):=λw1 y=>H.out x (aL C) w1 (e.out.1.trans (y.mono N));obtain⟨o,A⟩:∃o,As M n x=o:=⟨_,rfl⟩;rw[A]at G;have S:=ap A;have bi:a2<wr.heap.size:=by omega
   clear r C A aZ;cases n with
   | zero=>exact aG.elim
   | succ n=>
   obtain⟨a4,a5,a6,a7⟩:=aG;have J:dG (n+1) x=.agg #[ab x.1.1,ab x.1.2.1,af x.1.2.2,ae x.2.1.1 x.2.2.length x.2.1.2]:=rfl;rw[J]at G;clear J;have bd:(0:Int)<=(k:Int):=by omega
   have be:(k:Int)<(len:Int):=by omega
   go_wp2_with fail;refine(G.out _ aX).mono ?_;rintro ba h ⟨d,a3,rfl,j⟩;have F:Hid (am wr h):=aX.trans (j.out.1.mono (by simp));have ah:wr.heap.size<=h.heap.size:=F.out.size;have ad:Value.agg (fy (M+1) d).toArray=.agg #[ab d.1.1.1.1,ab d.1.1.1.2.1,af d.1.1.1.2.2,ae d.1.1.2.1.1 d.1.1.2.2.length d.1.1.2.1.2,ab d.1.2.1.1.1,ab d.1.2.1.1.2.1,af d.1.2.1.1.2.2,ae d.1.2.1.2.1.1 d.1.2.1.2.2.length d.1.2.1.2.1.2,ae d.2.1.1 d.2.2.length d.2.1.2,ab d.1.2.2.1.1,ab d.1.2.2.1.2.1,af d.1.2.2.1.2.2,ae d.1.2.2.2.1.1 d.1.2.2.2.2.length d.1.2.2.2.1.2]:=rfl;rw[ad];clear ad G a4 a5 a6 a7;cases a3
   ·have L:Hid (mf 13 (fy (M+1)) (iE (M+1)) (ku (M+1)) (Dv (M+1)) (cZ (As M (n+1)) p) w (.returned (.tuple #[ae none 0 0,.bool false])) (h.alloc (.cells #[ab d.1.1.1.1,ab d.1.1.1.2.1,af d.1.1.1.2.2,ae d.1.1.2.1.1 d.1.1.2.2.length d.1.1.2.1.2,ab d.1.2.1.1.1,ab d.1.2.1.1.2.1,af d.1.2.1.1.2.2,ae d.1.2.1.2.1.1 d.1.2.1.2.2.length d.1.2.1.2.1.2,ae d.2.1.1 d.2.2.length d.2.1.2,ab d.1.2.2.1.1,ab d.1.2.2.1.2.1,af d.1.2.2.1.2.2,ae d.1.2.2.2.1.1 d.1.2.2.2.2.length d.1.2.2.2.1.2] 162))):=by
      have aw:cZ (As M (n+1)) p=none:=mQ _ p k x Z.out (by
       have y:=j.out.2.1;rw[S.out];cases o with
       | none=>rfl
       | some i=>cases y)
      have z:am w h:=e.out.1.trans (F.out.mono N);refine⟨[],none,0,false,rfl,z.trans (aX.mono z.size),by rw[aw];rfl,⟨av _,aM _⟩,aj rfl,aj rfl,λi l=>by rw[aw]at l;cases l⟩
    clear j e;go_wp2_with fail;exact ay (v:=.tuple #[ae none 0 0,.bool false]) (by simp[results,results143,go_sem]) rfl L.out
   ·have X:=λ(P Q:Obj)(g c:Nat)(R:ag) aY aU aS=>ap (fF.step q.out (T:=162) (w1:=(h.alloc P).alloc Q) (w2:=R) (g:=g) (c:=c) e.out (aM _) N (F.out.trans ((aX.trans (aX.mono (by simp))).mono ah)) d (q.out.mono (by simp;omega) (q.out.below (aX.trans (aX.mono (by simp))) j.out.2.2.1)) (q.out.1 _ _ _ (λb z=>ak (by simp at z;omega)) j.out.2.2.2.1) aY aU aS);have U:=λ(P Q:Obj)=>ap (ez e.out.2.1 (F.out.trans ((aX.trans (aX.mono (by simp)):am h ((h.alloc P).alloc Q)).mono ah)));rw[s.out]at X U;go_wp2_with (at_builtin;refine wpList_append_lies _ rfl _ _ 149 rfl w.heap.size 162 a1 _ 13 192 underlying149 I.out.1 I.out.2.1 I.out.2.2.1 I.out.2.2.2 rfl (by decide) (ae D k K) k (m.flatMap (fy (M+1))) (by simp[Act.eval]) (U _ _).out ⟨h.heap.size+1,0,none⟩ 1 1 (fy (M+1) d) (by simp[Act.eval]) rfl (World.news_of_block (cs:= #[ab d.1.1.1.1,ab d.1.1.1.2.1,af d.1.1.1.2.2,ae d.1.1.2.1.1 d.1.1.2.2.length d.1.1.2.1.2,ab d.1.2.1.1.1,ab d.1.2.1.1.2.1,af d.1.2.1.1.2.2,ae d.1.2.1.2.1.1 d.1.2.1.2.2.length d.1.2.1.2.1.2,ae d.2.1.1 d.2.2.length d.2.1.2,ab d.1.2.2.1.1,ab d.1.2.2.1.2.1,af d.1.2.2.1.2.2,ae d.1.2.2.2.1.1 d.1.2.2.2.2.length d.1.2.2.2.1.2]) (t:=162) (fr:=(0,0)) (by have u:=aD (h.alloc (.cells #[ab d.1.1.1.1,ab d.1.1.1.2.1,af d.1.1.1.2.2,ae d.1.1.2.1.1 d.1.1.2.2.length d.1.1.2.1.2,ab d.1.2.1.1.1,ab d.1.2.1.1.2.1,af d.1.2.1.1.2.2,ae d.1.2.1.2.1.1 d.1.2.1.2.2.length d.1.2.1.2.1.2,ae d.2.1.1 d.2.2.length d.2.1.2,ab d.1.2.2.1.1,ab d.1.2.2.1.2.1,af d.1.2.2.1.2.2,ae d.1.2.2.2.1.1 d.1.2.2.2.2.length d.1.2.2.2.1.2] 162)) (.cells #[ab d.1.1.1.1,ab d.1.1.1.2.1,af d.1.1.1.2.2,ae d.1.1.2.1.1 d.1.1.2.2.length d.1.1.2.1.2,ab d.1.2.1.1.1,ab d.1.2.1.1.2.1,af d.1.2.1.1.2.2,ae d.1.2.1.2.1.1 d.1.2.1.2.2.length d.1.2.1.2.1.2,ae d.2.1.1 d.2.2.length d.2.1.2,ab d.1.2.2.1.1,ab d.1.2.2.1.2.1,af d.1.2.2.1.2.2,ae d.1.2.2.2.1.1 d.1.2.2.2.2.length d.1.2.2.2.1.2] 162);simp only[ja]at u;exact u)) (J5 _ _) (by decide) (by unfold maxLen;omega) (by omega) (by simp;omega) (h.heap.size+1+1) (by simp) ?_;intro aQ aO R ax an al bg;have aK:=X _ _ aQ aO R ax an (by simpa using al);clear ax an al);have aI:Hid (∃i,o=some i/\Dv (M+1) d i):=by
     have y:=j.out.2.1;cases o with
     | none=>cases y
     | some i=>exact⟨i,rfl,j.out.2.2.2.2 i rfl⟩
    obtain⟨i,l,a0⟩:=aI.out;have aJ:=ap (S.out.trans l);go_roundw
    case rel=>exact⟨k+1,_,by omega,by go_num,rfl,m++ [d],E++ [i],by simp[s.out],aK.out,sM _ _ _ _ Z.out _ _ Y.out aJ.out,W.out.snoc a0⟩
    case measure=>simp[intOf];omega
  ·have L:Hid (mf 13 (fy (M+1)) (iE (M+1)) (ku (M+1)) (Dv (M+1)) (cZ (As M n) p) w (.returned (.tuple #[ae D k K,.bool true])) wr):=by
     have ai:cZ (As M n) p=some E:=by have u:=Y.out;rw[bD (by rw[aA.out];omega)]at u;exact u
     obtain⟨a8,a9,aa,aT,aV,A⟩:=fF.lay (f:=fy (M+1)) (k:=13) q.out (λ_=>rfl) e.out;rw[s.out]at aa;injection aa with aP bb J;subst aP J;refine⟨m,D,K,true,by rw[s.out],e.out.1,by rw[ai];rfl,aT,aV,?_,λi l=>by rw[ai]at l;obtain rfl:=az l;exact W.out⟩;exact(cU q.out 13 (fy (M+1)) D).1 _ _ _ (λb z=>by omega) A
   clear e;go_wp2_with fail;exact ay (v:=.tuple #[ae D k K,.bool true]) (by simp[results,results143,go_sem]) rfl L.out
theorem xw:(Tryz.prog.info? 151).map (λi=>(i.zero,i.size,i.bytes))=some (some (.agg #[af .empty,ae none 0 0]),2,40):=by kernel_rfl
theorem MP(n:Nat)(y:Bh n):∀a∈p7 n y,a.oneCell'=true:=oP rfl
theorem qR(M n:Nat)(p:List (Tm n))(len:Nat)(aA:Hid (p.length=len))(bf:len<=8)(a:ar)(pc B:Nat)(w:ag)(r:Hid (fZ B w n p a))(aR:B<=w.heap.size)(H:Hid (∀x∈p,∀w1,am w w1->ao 106 #[dG n x] w1 (rA (p7 (M+1)) (pY (M+1)) (kp (M+1)) (zv (M+1)) (Ar M n x) w1))):ao 105 #[ae a len pc,.func (Fn.func 106) #[] #[]] w (mf 2 (p7 (M+1)) (pY (M+1)) (kp (M+1)) (zv (M+1)) (cZ (Ar M n) p) w):=by
 obtain⟨a1,aq,aB,aC,aE⟩:=bY xw;have I:=ap (⟨aq,aB,aC,aE⟩:_/\_/\_/\_);clear aq aB aC aE;have q:=ap (eD (M+1));go_enter func105,ntmps105;go_wp2_with fail;go_loopw [6,13] (λv O wr=>∃(k:Nat)(aH:au),k<=len/\O=ab k/\aH=v/\Hid (QE (pY (M+1)) (kp (M+1)) (zv (M+1)) (p7 (M+1)) 2 151 (Ar M n) p w k aH wr)) (λ_ O _=>len-(intOf O).toNat)
 case atStart=>exact⟨0,_,by omega,rfl,rfl,[],[],rfl,fF.nil _,by simp[cZ],fl.nil⟩
 case round=>
  obtain⟨k,v,bc,rfl,rfl,V⟩:=hrel;obtain⟨m,E,s,e,Y,W⟩:∃(m E:List (Bh (M+1))),Hid (m.length=k)/\Hid (fF (pY (M+1)) (kp (M+1)) (p7 (M+1)) 2 151 0 w.heap.size m v w wr)/\Hid (cZ (Ar M n) (p.take k)=some E)/\Hid (fl (zv (M+1)) m E):=V.out;clear V;have N:w.heap.size<=wr.heap.size:=e.out.1.size;obtain⟨D,K,aF⟩:=e.out.slice;rw[s.out]at aF;subst aF;by_cases aW:k<len
  ·obtain⟨x,C⟩:∃x,p[k]?=some x:=⟨p[k]'(by rw[aA.out];exact aW),aN _⟩;have Z:=ap C;rcases(r.out.below (e.out.1.mono aR))with r|⟨a2,po,rfl,bh,r⟩
   ·subst r;simp at C
   obtain⟨aG,aZ⟩:=r k x C;have G:Hid (∀w1,am wr w1->ao 106 #[dG n x] w1 (rA (p7 (M+1)) (pY (M+1)) (kp (M+1)) (zv (M+1)) (Ar M n x) w1)):=λw1 y=>H.out x (aL C) w1 (e.out.1.trans (y.mono N));obtain⟨o,A⟩:∃o,Ar M n x=o:=⟨_,rfl⟩;rw[A]at G;have S:=ap A;have bi:a2<wr.heap.size:=by omega
   clear r C A aZ;cases n with
   | zero=>exact aG.elim
   | succ n=>
   obtain⟨a4,a5,a6,a7⟩:=aG;have J:dG (n+1) x=.agg #[ab x.1.1,ab x.1.2.1,af x.1.2.2,ae x.2.1.1 x.2.2.length x.2.1.2]:=rfl;rw[J]at G;clear J;have bd:(0:Int)<=(k:Int):=by omega
   have be:(k:Int)<(len:Int):=by omega
   go_wp2_with fail;refine(G.out _ aX).mono ?_;rintro ba h ⟨d,a3,rfl,j⟩;have F:Hid (am wr h):=aX.trans (j.out.1.mono (by simp));have ah:wr.heap.size<=h.heap.size:=F.out.size;have ad:Value.agg (p7 (M+1) d).toArray=.agg #[af d.1,ae d.2.1.1 d.2.2.length d.2.1.2]:=rfl;rw[ad];clear ad G a4 a5 a6 a7;cases a3
   ·have L:Hid (mf 2 (p7 (M+1)) (pY (M+1)) (kp (M+1)) (zv (M+1)) (cZ (Ar M (n+1)) p) w (.returned (.tuple #[ae none 0 0,.bool false])) (h.alloc (.cells #[af d.1,ae d.2.1.1 d.2.2.length d.2.1.2] 151))):=by
      have aw:cZ (Ar M (n+1)) p=none:=mQ _ p k x Z.out (by
       have y:=j.out.2.1;rw[S.out];cases o with
       | none=>rfl
       | some i=>cases y)
      have z:am w h:=e.out.1.trans (F.out.mono N);refine⟨[],none,0,false,rfl,z.trans (aX.mono z.size),by rw[aw];rfl,⟨av _,aM _⟩,aj rfl,aj rfl,λi l=>by rw[aw]at l;cases l⟩
    clear j e;go_wp2_with fail;exact ay (v:=.tuple #[ae none 0 0,.bool false]) (by simp[results,results105,go_sem]) rfl L.out
   ·have X:=λ(P Q:Obj)(g c:Nat)(R:ag) aY aU aS=>ap (fF.step q.out (T:=151) (w1:=(h.alloc P).alloc Q) (w2:=R) (g:=g) (c:=c) e.out (aM _) N (F.out.trans ((aX.trans (aX.mono (by simp))).mono ah)) d (q.out.mono (by simp;omega) (q.out.below (aX.trans (aX.mono (by simp))) j.out.2.2.1)) (q.out.1 _ _ _ (λb z=>ak (by simp at z;omega)) j.out.2.2.2.1) aY aU aS);have U:=λ(P Q:Obj)=>ap (ez e.out.2.1 (F.out.trans ((aX.trans (aX.mono (by simp)):am h ((h.alloc P).alloc Q)).mono ah)));rw[s.out]at X U;go_wp2_with (at_builtin;refine wpList_append_lies _ rfl _ _ 22 rfl w.heap.size 151 a1 _ 2 40 underlying22 I.out.1 I.out.2.1 I.out.2.2.1 I.out.2.2.2 rfl (by decide) (ae D k K) k (m.flatMap (p7 (M+1))) (by simp[Act.eval]) (U _ _).out ⟨h.heap.size+1,0,none⟩ 1 1 (p7 (M+1) d) (by simp[Act.eval]) rfl (World.news_of_block (cs:= #[af d.1,ae d.2.1.1 d.2.2.length d.2.1.2]) (t:=151) (fr:=(0,0)) (by have u:=aD (h.alloc (.cells #[af d.1,ae d.2.1.1 d.2.2.length d.2.1.2] 151)) (.cells #[af d.1,ae d.2.1.1 d.2.2.length d.2.1.2] 151);simp only[ja]at u;exact u)) (MP _ _) (by decide) (by unfold maxLen;omega) (by omega) (by simp;omega) (h.heap.size+1+1) (by simp) ?_;intro aQ aO R ax an al bg;have aK:=X _ _ aQ aO R ax an (by simpa using al);clear ax an al);have aI:Hid (∃i,o=some i/\zv (M+1) d i):=by
     have y:=j.out.2.1;cases o with
     | none=>cases y
     | some i=>exact⟨i,rfl,j.out.2.2.2.2 i rfl⟩
    obtain⟨i,l,a0⟩:=aI.out;have aJ:=ap (S.out.trans l);go_roundw
    case rel=>exact⟨k+1,_,by omega,by go_num,rfl,m++ [d],E++ [i],by simp[s.out],aK.out,sM _ _ _ _ Z.out _ _ Y.out aJ.out,W.out.snoc a0⟩
    case measure=>simp[intOf];omega
  ·have L:Hid (mf 2 (p7 (M+1)) (pY (M+1)) (kp (M+1)) (zv (M+1)) (cZ (Ar M n) p) w (.returned (.tuple #[ae D k K,.bool true])) wr):=by
     have ai:cZ (Ar M n) p=some E:=by have u:=Y.out;rw[bD (by rw[aA.out];omega)]at u;exact u
     obtain⟨a8,a9,aa,aT,aV,A⟩:=fF.lay (f:=p7 (M+1)) (k:=2) q.out (λ_=>rfl) e.out;rw[s.out]at aa;injection aa with aP bb J;subst aP J;refine⟨m,D,K,true,by rw[s.out],e.out.1,by rw[ai];rfl,aT,aV,?_,λi l=>by rw[ai]at l;obtain rfl:=az l;exact W.out⟩;exact(cU q.out 2 (p7 (M+1)) D).1 _ _ _ (λb z=>by omega) A
   clear e;go_wp2_with fail;exact ay (v:=.tuple #[ae D k K,.bool true]) (by simp[results,results105,go_sem]) rfl L.out
theorem Iv(k b:Int)(s:aq)(a:ar)(l c:Nat)(w:ag)(d:(k !=4)=true):ao 104 #[.agg #[ab k,ab b,af s,ae a l c]] w λe w'=>e=.returned (.tuple #[af ⟨#[]⟩,ae none 0 0])/\am w w':=by
 go_enter func104,ntmps104;go_wp2_with fail;exact ay (v:=.tuple #[af ⟨#[]⟩,ae none 0 0]) (by simp[results,results104,go_sem]) rfl ⟨rfl,aX⟩
theorem Cm(b:Int)(s:aq)(a:ar)(c:Nat)(w:ag):ao 104 #[.agg #[ab 4,ab b,af s,ae a 0 c]] w λe w'=>e=.returned (.tuple #[af ⟨#[]⟩,ae none 0 0])/\am w w':=by
 go_enter func104,ntmps104;go_wp2_with fail;exact ay (v:=.tuple #[af ⟨#[]⟩,ae none 0 0]) (by simp[results,results104,go_sem]) rfl ⟨rfl,aX⟩
theorem Ex(a:Int)(s:aq)(b o l c:Nat)(f:0<l)(y0:Int)(i:(y0 !=2)=true)(w:ag)(d:b<w.heap.size)(c0:ai w b o (ab y0)):ao 104 #[.agg #[ab 4,ab a,af s,ae (some ⟨b,o,none⟩) l c]] w λe w'=>e=.returned (.tuple #[af ⟨#[]⟩,ae none 0 0])/\am w w':=by
 have g:((l:Int)==0)=false:=by simp;omega
 have h:(0:Int)<(l:Int):=by omega
 go_enter func104,ntmps104;go_wp2_with fail;exact ay (v:=.tuple #[af ⟨#[]⟩,ae none 0 0]) (by simp[results,results104,go_sem]) rfl ⟨rfl,aX⟩
theorem Iu(d:Int)(s:aq)(b o l c:Nat)(i:0<l)(p:l<=c)(h:c<=9223372036854775807)(y2:aq)(w:ag)(g:b<w.heap.size)(c0:ai w b o (ab 2))(f:ai w b (o+2) (af y2)):ao 104 #[.agg #[ab 4,ab d,af s,ae (some ⟨b,o,none⟩) l c]] w λe w'=>e=.returned (.tuple #[af y2,ae (if c=1 then some ⟨b,o,none⟩else some ⟨b,o+4,none⟩) (l-1) (c-1)])/\am w w':=by
 have j:((l:Int)==0)=false:=by simp;omega
 have k:(0:Int)<(l:Int):=by omega
 have m:(1:Int)<=(l:Int):=by omega
 have n:(l:Int)<=(c:Int):=by omega
 by_cases a:c=1
 ·rw[if_pos a];obtain rfl:l=1:=by omega
  subst a;go_enter func104,ntmps104;go_wp2_with fail;go_region
  all_goals go_wp2_with fail
  all_goals exact ay (v:=.tuple #[af y2,ae (some ⟨b,o,none⟩) 0 0]) (by simp[results,results104,go_sem]) rfl ⟨rfl,aX.drew⟩
 ·rw[if_neg a];go_enter func104,ntmps104;go_wp2_with fail;go_region
  all_goals go_wp2_with fail
  all_goals exact ay (v:=.tuple #[af y2,ae (some ⟨b,o+4,none⟩) (l-1) (c-1)]) (by simp[results,results104,go_sem]) rfl ⟨rfl,aX.drew⟩
def bU(g:Nat)(w w':ag):Prop:=(w'.os=w.os/\w'.tape=w.tape/\w'.output=w.output)/\w'.heap.size=w.heap.size/\∀b,b≠g->w'.heap[b]?=w.heap[b]?
theorem bU.refl(g:Nat)(w:ag):bU g w w:=⟨⟨rfl,rfl,rfl⟩,rfl,λ_ _=>rfl⟩
theorem bU.set{g:Nat}{w w':ag}(a:bU g w w')(o:Nat)(v:au):bU g w (w'.setCell ⟨g,o,none⟩ v):=
 ⟨a.1,by simpa [World.setCell]using a.2.1,λb c=>by
  have:g≠b:=λd=>c d.symm;rw[<-a.2.2 b c]
  simp[World.setCell,bT,this]⟩
theorem bU.below{g:Nat}{w0 w w':ag}(a:bU g w w')(c:am w0 w)(e:w0.heap.size<=g):am w0 w':=
 ⟨a.1.1.trans c.os,a.1.2.1.trans c.tape,a.1.2.2.trans c.output,by rw[a.2.1];exact c.size,λb d=>(a.2.2 b (by omega)).trans (c.block b d)⟩
theorem bU.stays{c:Type}{a:Nat->ag->c->Prop}{d:(Nat->Prop)->c->Prop}(i:kv a d){g:Nat}{w w':ag}(e:bU g w w'){P:aO}(h:¬P g){x:c}(l:d P x)(k:a w.heap.size w x):a w'.heap.size w' x:=by
 rw[e.2.1];exact i.2.2.1 P _ w w' x (λb j=>e.2.2 b (λf=>h (f▸j))) l k
theorem kI(g:Nat)(w:ag)(v0 v1 v2 v3 b c d e f h a:au):bU g w (((((((((((w.setCell ⟨g,0,none⟩ v0).setCell ⟨g,1,none⟩ v1).setCell ⟨g,2,none⟩ v2).setCell ⟨g,3,none⟩ v3).setCell ⟨g,4,none⟩ b).setCell ⟨g,5,none⟩ c).setCell ⟨g,6,none⟩ d).setCell ⟨g,7,none⟩ e).setCell ⟨g,8,none⟩ f).setCell ⟨g,9,none⟩ h).setCell ⟨g,10,none⟩ a):=bU.set (bU.set (bU.set (bU.set (bU.set (bU.set (bU.set (bU.set (bU.set (bU.set (bU.set (bU.refl _ _) _ _) _ _) _ _) _ _) _ _) _ _) _ _) _ _) _ _) _ _) _ _
theorem rR(g:Nat)(w:ag)(v0 v1 v2 v3 d e f h i j a b c:au):bU g w (((((((((((((w.setCell ⟨g,0,none⟩ v0).setCell ⟨g,1,none⟩ v1).setCell ⟨g,2,none⟩ v2).setCell ⟨g,3,none⟩ v3).setCell ⟨g,4,none⟩ d).setCell ⟨g,5,none⟩ e).setCell ⟨g,6,none⟩ f).setCell ⟨g,7,none⟩ h).setCell ⟨g,8,none⟩ i).setCell ⟨g,9,none⟩ j).setCell ⟨g,10,none⟩ a).setCell ⟨g,11,none⟩ b).setCell ⟨g,12,none⟩ c):=bU.set (bU.set (bU.set (bU.set (bU.set (bU.set (bU.set (bU.set (bU.set (bU.set (bU.set (bU.set (bU.set (bU.refl _ _) _ _) _ _) _ _) _ _) _ _) _ _) _ _) _ _) _ _) _ _) _ _) _ _) _ _
abbrev oq(M:Nat)(o:Option (Ac (M+1)))(w:ag)(e:Ending)(w':ag):Prop:=rA (gH (M+1)) (jd (M+1)) (mL (M+1)) (DC (M+1)) o w e w'
def Qu(M:Nat):Ac (M+1):=(0,(zT M,zT M),(.empty,0))
theorem PI(M B:Nat)(w:ag):jd (M+1) B w (Qu M):=⟨by simp[Qu,dN],lW _ _ _,lW _ _ _,aM _,by simp[Qu,dN]⟩
theorem qP{M:Nat}{o:Option (Ac (M+1))}{w w':ag}(b:o=none)(a:am w w'):oq M o w (.returned (.tuple #[.agg #[ab 0,ab 0,ab 0,af .empty,ae none 0 0,ab 0,ab 0,af .empty,ae none 0 0,af .empty,ab 0],.bool false])) w':=by
 subst b;exact⟨Qu M,false,rfl,a,rfl,PI _ _ _,⟨aj rfl,aj rfl⟩,λd c=>by cases c⟩
theorem Cj{P:aO}:(N n:Nat)->n<=N->(x:Tm n)->cD P n x->cD P N (bf N n x)
 | _,0,_,_,k=>k.elim
 | 0,n+1,h,_,_=>by omega
 | N+1,n+1,h,x,k=>by
  rcases k with k|⟨b,o,e,d,k⟩
  ·exact aj (by simp[bf,k])
  ·refine ak ⟨b,o,e,d,λi y a=>?_⟩;simp only[bf,dn]at a;obtain⟨c,f,rfl⟩:=cG.1 a;exact Cj N n (by omega) c (k i c f)
theorem jq{M n:Nat}(a:n<=M+1){b y:Tm n}{w':ag}{P:aO}(c:In w'.heap.size w' n y)(d:cD P n y)(e:aB n y n b=true):In w'.heap.size w' (M+1) (bf (M+1) n y)/\cD P (M+1) (bf (M+1) n y)/\aB (M+1) (bf (M+1) n y) (M+1) (bf (M+1) n b)=true:=
 ⟨pt _ _ a _ _ _ c,Cj _ _ a _ d,pr a a e⟩
theorem Kx(w:ag)(a b c d:Obj):(((((w.alloc a).alloc b).alloc c).alloc d).heap[w.heap.size]?=some a/\((((w.alloc a).alloc b).alloc c).alloc d).heap[w.heap.size+1]?=some b/\((((w.alloc a).alloc b).alloc c).alloc d).heap[w.heap.size+1+1]?=some c/\((((w.alloc a).alloc b).alloc c).alloc d).heap[w.heap.size+1+1+1]?=some d)/\am w ((((w.alloc a).alloc b).alloc c).alloc d)/\((((w.alloc a).alloc b).alloc c).alloc d).heap.size=w.heap.size+1+1+1+1:=by
 have f:=kK w a b;have e:=kK ((w.alloc a).alloc b) c d;have g:((w.alloc a).alloc b).heap.size=w.heap.size+1+1:=by simp
 rw[g]at e;refine⟨⟨?_,?_,e.1,e.2⟩,by go_grown,by simp⟩
 ·exact(ie _ d (by simp;omega)).trans ((ie _ c (by simp;omega)).trans f.1)
 ·exact(ie _ d (by simp)).trans ((ie _ c (by simp)).trans f.2)
theorem mP{w:ag}{q:Nat}{c0 b d e f g h i k l c:au}{t:TypeId}(a:w.heap[q]?=some (.cells #[c0,b,d,e,f,g,h,i,k,l,c] t)):(ai w q 0 c0/\ai w q 1 b/\ai w q 2 d/\ai w q 3 e/\ai w q 4 f/\ai w q 5 g/\ai w q 6 h/\ai w q 7 i/\ai w q 8 k/\ai w q 9 l/\ai w q 10 c)/\(∀j,w.frozen? ⟨q,j,none⟩=false)/\q<w.heap.size:=
 ⟨⟨ax a 0,ax a 1,ax a 2,ax a 3,ax a 4,ax a 5,ax a 6,ax a 7,ax a 8,ax a 9,ax a 10⟩,λj=>dm a j,(aI.1 a).1⟩
theorem nY{M:Nat}{o:Option (Ac (M+1))}{w w2 w':ag}{g:Nat}(y e:Ac (M+1))(i:o=some e)(d:bU g w2 w')(a:am w w2)(f:w.heap.size<=g)(h:jd (M+1) w2.heap.size w2 y)(c:mL (M+1) (λb=>g<b) y)(j:DC (M+1) y e):oq M o w (.returned (.tuple #[.agg (gH (M+1) y).toArray,.bool true])) w':=by
 subst i;exact⟨y,true,rfl,d.below a f,rfl,d.stays (f9 _) (P:=λb=>g<b) (by omega) c h,(f9 _).1 _ _ _ (λb a=>by omega) c,λl k=>by obtain rfl:=az k;exact j⟩
section
variable {P:Program}
end
theorem gC{g:Nat}{w w':ag}(a:bU g w w'){b:Nat}(c:b≠g)(o:Nat):w'.cell? ⟨b,o,none⟩=w.cell? ⟨b,o,none⟩:=bH (a.2.2 b c) o
theorem NX{q:Nat}{w w':ag}{v0 v1 v2 v3 b c:au}(a:bU (q+1+1+1) w w')(k:(ai w q 2 v0/\w.cell? ⟨q+1+1,1,none⟩=some v1)/\w.cell? ⟨q+1,0,none⟩=some v2/\w.cell? ⟨q+1,1,none⟩=some v3/\w.cell? ⟨q+1,2,none⟩=some b/\w.cell? ⟨q+1,3,none⟩=some c):(ai w' q 2 v0/\w'.cell? ⟨q+1+1,1,none⟩=some v1)/\w'.cell? ⟨q+1,0,none⟩=some v2/\w'.cell? ⟨q+1,1,none⟩=some v3/\w'.cell? ⟨q+1,2,none⟩=some b/\w'.cell? ⟨q+1,3,none⟩=some c:=
 ⟨⟨(gC a (by omega) _).trans k.1.1,(gC a (by omega) _).trans k.1.2⟩,(gC a (by omega) _).trans k.2.1,(gC a (by omega) _).trans k.2.2.1,(gC a (by omega) _).trans k.2.2.2.1,(gC a (by omega) _).trans k.2.2.2.2⟩
theorem xA(M n:Nat)(X:n+1<=M+1)(a b c:Tm (n+1))(B:Nat)(w:ag)(u:In B w (n+1) a)(x:In B w (n+1) b)(y:In B w (n+1) c)(z:aJ ⟨n+1,a⟩)(A:aJ ⟨n+1,b⟩)(L:B<=w.heap.size):ao 196 #[.agg #[ab a.1.1,ab a.1.2.1,af a.1.2.2,ae a.2.1.1 a.2.2.length a.2.1.2],.agg #[ab b.1.1,ab b.1.2.1,af b.1.2.2,ae b.2.1.1 b.2.2.length b.2.1.2],.agg #[ab c.1.1,ab c.1.2.1,af c.1.2.2,ae c.2.1.1 c.2.2.length c.2.1.2]] w (oq M (Au M (n+1) a b c) w):=by
 obtain⟨o,i⟩:∃o,o=Au M (n+1) a b c:=⟨_,rfl⟩;rw[<-i];by_cases f:a.1.1=2
 ·by_cases m:c.1.1=5
  ·have q:Hid (o=some (2,(zT M,bf (M+1) (n+1) b),(a.1.2.2,c.1.2.1))):=by
     show _=_;rw[i];simp[Au,cg,f,m,ym,p9,gK,bO]
   clear i;have K:(a.1.1 !=2)=false:=by simp[f]
   have S:(c.1.1 !=5)=false:=by simp[m]
   have Y:a.1.2.2.size<=2048:=by
    have:=z (bO n a) (by simp[aC,bO]);have U:ex a.1.2.2=true:=by
     simp only[cQ,bO,f]at this;simp at this;exact this.1.1
    simp only[ex,rk,aK,cw]at U;omega
   have O:Hid (∀j,am w j->ao 56 #[.agg #[ab b.1.1,ab b.1.2.1,af b.1.2.2,ae b.2.1.1 b.2.2.length b.2.1.2]] j λl e=>∃d:Tm (n+1),l=.returned (.agg #[ab d.1.1,ab d.1.2.1,af d.1.2.2,ae d.2.1.1 d.2.2.length d.2.1.2])/\Hid (am j e/\In e.heap.size e (n+1) d/\cD (λC=>j.heap.size<=C) (n+1) d/\aB (n+1) d (n+1) b=true)):=
    λj t=>iL (n+1) b B j (x.below (t.mono L)) (aF L t.size) A
   have J:Hid (a.1.2.2.size<=maxLen/\dN c.1.2.1):=⟨u.1.2.2.1,y.1.2.1⟩;clear u x y z A f m;go_enter func196,ntmps196;go_wp2_with fail;have h:=ap (Kx w (.cells #[ab a.1.1,ab a.1.2.1,af a.1.2.2,ae a.2.1.1 a.2.2.length a.2.1.2] 31) (.cells #[ab b.1.1,ab b.1.2.1,af b.1.2.2,ae b.2.1.1 b.2.2.length b.2.1.2] 31) (.cells #[ab c.1.1,ab c.1.2.1,af c.1.2.2,ae c.2.1.1 c.2.2.length c.2.1.2] 31) (.cells #[ab 0,ab 0,ab 0,af ⟨#[]⟩,ae none 0 0,ab 0,ab 0,af ⟨#[]⟩,ae none 0 0,af ⟨#[]⟩,ab 0] 248));generalize N:(((w.alloc _).alloc _).alloc _).alloc _=F;rw[N]at h;clear N;have p:Hid (∀e,am F e->(ai e w.heap.size 2 (af a.1.2.2)/\e.cell? ⟨w.heap.size+1+1,1,none⟩=some (ab c.1.2.1))/\e.cell? ⟨w.heap.size+1,0,none⟩=some (ab b.1.1)/\e.cell? ⟨w.heap.size+1,1,none⟩=some (ab b.1.2.1)/\e.cell? ⟨w.heap.size+1,2,none⟩=some (af b.1.2.2)/\e.cell? ⟨w.heap.size+1,3,none⟩=some (ae b.2.1.1 b.2.2.length b.2.1.2)):=λe G=>by
    have l:=h.2.2;have t:=(G.block w.heap.size (by omega)).trans h.1.1;have f:=(G.block (w.heap.size+1) (by omega)).trans h.1.2.1;have T:=(G.block (w.heap.size+1+1) (by omega)).trans h.1.2.2.1;exact⟨⟨ax t 2,ax T 1⟩,ax f 0,ax f 1,ax f 2,ax f 3⟩
   obtain⟨⟨Z,al⟩,aa,ad,ah,ak⟩:=p.out F (aA _ _)
   go_region_held3 (λe=>(e.cell? ⟨w.heap.size,2,none⟩=some (af a.1.2.2)/\e.cell? ⟨w.heap.size+1+1,1,none⟩=some (ab c.1.2.1))/\e.cell? ⟨w.heap.size+1,0,none⟩=some (ab b.1.1)/\e.cell? ⟨w.heap.size+1,1,none⟩=some (ab b.1.2.1)/\e.cell? ⟨w.heap.size+1,2,none⟩=some (af b.1.2.2)/\e.cell? ⟨w.heap.size+1,3,none⟩=some (ae b.2.1.1 b.2.2.length b.2.1.2)) (first|with_reducible assumption|with_reducible exact p.out _ r.out|with_reducible exact p.out _ D.out|with_reducible exact P.out _ (kI _ _ _ _ _ _ _ _ _ _ _ _ _)|exact p.out _ (aA _ _).drew)
    ((first
     | (go_at_call 56;refine(O _ h.2.1.drew).mono ?_;rintro l j ⟨d,rfl,s⟩;have D:=ap (dc s.1))
     | (go_at_call 63;refine(ey _ _ Y).mono ?_;rintro l w2 ⟨rfl,H⟩;have I:=ap H;have r:=ap (D.trans (H.mono D.size));have Q:=ap ((r.block (w.heap.size+1+1+1) (by have:=h.2.2;omega)).trans h.1.2.2.2);clear H;obtain⟨⟨d0,d1,d2,d3,d4,d5,d6,d7,d8,d9,d10⟩,f0,aq⟩:=mP Q;have P:=ap (λR (W:bU (w.heap.size+1+1+1) w2 R)=>NX W (p _ r)))))
   go_wp2_with fail;have E:=jq (M:=M) X ((s.2.1.below I).mono I.size) (s.2.2.1.mono λC (an:F.heap.size<=C)=>(show w.heap.size+1+1+1<C by have:=h.2.2;omega)) s.2.2.2;refine ay (v:=.tuple #[.agg #[ab 2,ab 0,ab 0,af ⟨#[]⟩,ae none 0 0,ab d.1.1,ab d.1.2.1,af d.1.2.2,ae d.2.1.1 d.2.2.length d.2.1.2,af a.1.2.2,ab c.1.2.1],.bool true]) (by simp[results,results196,go_sem,d0,d1,d2,d3,d4,d5,d6,d7,d8,d9,d10]) rfl ?_;have l:gH (M+1) (2,(zT M,bf (M+1) (n+1) d),(a.1.2.2,c.1.2.1))=[ab 2,ab 0,ab 0,af ⟨#[]⟩,ae none 0 0,ab d.1.1,ab d.1.2.1,af d.1.2.2,ae d.2.1.1 d.2.2.length d.2.1.2,af a.1.2.2,ab c.1.2.1]:=by
    show ab 2::(iQ (M+1) (zT M)++iQ (M+1) (bf (M+1) (n+1) d)++ [af a.1.2.2,ab c.1.2.1])=_;rw[gS];rfl
   have k:=λ(e:ag)(V:bU (w.heap.size+1+1+1) w2 e)=>nY (g:=w.heap.size+1+1+1) (w2:=w2) (2,(zT M,bf (M+1) (n+1) d),(a.1.2.2,c.1.2.1)) (2,(zT M,bf (M+1) (n+1) b),(a.1.2.2,c.1.2.1)) q (w:=w) V (h.2.1.trans (r.mono h.2.1.size)) (by omega) ⟨by simp[dN],lW _ _ _,E.1,J.1,J.2⟩ ⟨aj rfl,E.2.1⟩ ⟨rfl,mn (lW _ 0 w),E.2.2,rfl⟩;rw[l]at k;exact k _ (kI _ _ _ _ _ _ _ _ _ _ _ _ _)
  ·have K:(a.1.1 !=2)=false:=by simp[f]
   have S:(c.1.1 !=5)=true:=by simp[m]
   have q:Hid (o=none):=by
    show _=_;rw[i];simp[Au,cg,m]
   clear i;clear u x y z A f m;go_enter func196,ntmps196;go_wp2_with fail;exact ay (v:=.tuple #[.agg #[ab 0,ab 0,ab 0,af .empty,ae none 0 0,ab 0,ab 0,af .empty,ae none 0 0,af .empty,ab 0],.bool false]) (by simp[results,results196,go_sem];rfl) rfl (qP q (by go_grown))
 ·have K:(a.1.1 !=2)=true:=by simp[f]
  have q:Hid (o=none):=by
   show _=_;rw[i];simp[Au,cg,f]
  clear i;clear u x y z A f;go_enter func196,ntmps196;go_wp2_with fail;exact ay (v:=.tuple #[.agg #[ab 0,ab 0,ab 0,af .empty,ae none 0 0,ab 0,ab 0,af .empty,ae none 0 0,af .empty,ab 0],.bool false]) (by simp[results,results196,go_sem];rfl) rfl (qP q (by go_grown))
theorem kL(l:List UInt8):(⟨l.toArray⟩:aq).toList=l:=by rw[cI]
theorem nV(a:aq)(l:List UInt8):tK a ⟨l.toArray⟩=(a.toList==l):=by
 show (a.toList==(⟨l.toArray⟩:aq).toList)=(a.toList==l);rw[show (⟨l.toArray⟩:aq).toList=l from kL l]
theorem eS{w w1:ag}{a b:Obj}(c:Below ((w.alloc a).alloc b).heap.size ((w.alloc a).alloc b) w1):w1.heap[w.heap.size]?=some a/\w1.heap[w.heap.size+1]?=some b/\am w w1/\w.heap.size+2<=w1.heap.size:=by
 have f:=c.size;have e:((w.alloc a).alloc b).heap.size=w.heap.size+2:=by simp
 have d:am w ((w.alloc a).alloc b):=by go_grown
 exact⟨(c.block _ (by omega)).trans (kK w a b).1,(c.block _ (by omega)).trans (kK w a b).2,d.trans (c.mono d.size),by omega⟩
theorem jU(M _n:Nat)(k j:Int)(s:aq)(xa:ar)(l xc:Nat)(b:aq)(a:ar)(len c:Nat)(w:ag)(o:Option (Ac (M+1)))(q:Hid (o=none)){t1 t2 t3 t4:Bool}(t:(b.toList==[115,101,110,100])=t1)(u:(b.toList==[115,112,97,119,110])=t2)(x:(b.toList==[108,105,110,107])=t3)(y:(b.toList==[115,116,111,112])=t4)(p:(t1=false/\t2=false/\t3=false/\t4=false)\/(t1=true/\t2=false/\t3=false/\t4=false/\((len:Int)==2)=false)\/(t1=false/\t2=true/\t3=false/\t4=false/\((len:Int)==3)=false)\/(t1=false/\t2=false/\t3=true/\t4=false/\((len:Int)==1)=false)\/(t1=false/\t2=false/\t3=false/\t4=true/\((len:Int)==0)=false))(f:Hid (∀w1,am w w1->ao 104 #[.agg #[ab k,ab j,af s,ae xa l xc]] w1 λe w'=>e=.returned (.tuple #[af b,ae a len c])/\am w1 w')):ao 182 #[.agg #[ab k,ab j,af s,ae xa l xc]] w (oq M o w):=by
 rcases p with⟨rfl,rfl,rfl,rfl⟩|⟨rfl,rfl,rfl,rfl,d⟩|⟨rfl,rfl,rfl,rfl,d⟩|⟨rfl,rfl,rfl,rfl,d⟩|⟨rfl,rfl,rfl,rfl,d⟩
 all_goals
  go_enter func182,ntmps182;go_wp2_with fail;refine(f _ (by go_grown)).mono ?_;rintro e w1 ⟨rfl,g⟩;obtain⟨r,i,h,A⟩:=eS g;have m:=ap h;have n:=ap i;clear g r i h f;obtain⟨⟨d0,d1,d2,d3,d4,d5,d6,d7,d8,d9,d10⟩,f0,z⟩:=mP n;go_wp2_with fail;exact ay (v:=.tuple #[.agg #[ab 0,ab 0,ab 0,af .empty,ae none 0 0,ab 0,ab 0,af .empty,ae none 0 0,af .empty,ab 0],.bool false]) (by simp[results,results182,go_sem,d0,d1,d2,d3,d4,d5,d6,d7,d8,d9,d10];rfl) rfl (qP q ((kI _ _ _ _ _ _ _ _ _ _ _ _ _).below m (by omega)))
theorem Ay(M _n:Nat)(k j:Int)(s:aq)(xa:ar)(l xc:Nat)(b:aq)(a:ar)(len c:Nat)(w:ag)(o:Option (Ac (M+1)))(p:Hid (o=some (4,(zT M,zT M),(.empty,0))))(r:(b.toList==[115,101,110,100])=false)(t:(b.toList==[115,112,97,119,110])=false)(u:(b.toList==[108,105,110,107])=false)(x:(b.toList==[115,116,111,112])=true)(y:((len:Int)==0)=true)(d:Hid (∀w1,am w w1->ao 104 #[.agg #[ab k,ab j,af s,ae xa l xc]] w1 λe w'=>e=.returned (.tuple #[af b,ae a len c])/\am w1 w')):ao 182 #[.agg #[ab k,ab j,af s,ae xa l xc]] w (oq M o w):=by
 go_enter func182,ntmps182;go_wp2_with fail;refine(d _ (by go_grown)).mono ?_;rintro e w1 ⟨rfl,f⟩;obtain⟨q,i,h,A⟩:=eS f;have m:=ap h;have n:=ap i;clear f q i h d;obtain⟨⟨d0,d1,d2,d3,d4,d5,d6,d7,d8,d9,d10⟩,f0,z⟩:=mP n;go_wp2_with fail;refine ay (v:=.tuple #[.agg #[ab 4,ab 0,ab 0,af ⟨#[]⟩,ae none 0 0,ab 0,ab 0,af ⟨#[]⟩,ae none 0 0,af ⟨#[]⟩,ab 0],.bool true]) (by simp[results,results182,go_sem,d0,d1,d2,d3,d4,d5,d6,d7,d8,d9,d10]) rfl ?_;exact nY (g:=w.heap.size+1) (w2:=w1) (w:=w) (4,(zT M,zT M),(.empty,0)) _ p (kI _ _ _ _ _ _ _ _ _ _ _ _ _) m (by omega) ⟨by simp[dN],lW _ _ _,lW _ _ _,aM _,by simp[dN]⟩ ⟨aj rfl,aj rfl⟩ ⟨rfl,mn (lW _ 0 w),mn (lW _ 0 w),rfl⟩
theorem Aw(M n:Nat)(k A:Int)(s:aq)(xa:ar)(B xc:Nat)(h:aq)(d po c:Nat)(w:ag)(y:Tm (n+1))(I:n+1<=M+1)(o:Option (Ac (M+1)))(J:Hid (o=some (3,(bf (M+1) (n+1) y,zT M),(.empty,0))))(L:(h.toList==[115,101,110,100])=false)(N:(h.toList==[115,112,97,119,110])=false)(O:(h.toList==[108,105,110,107])=true)(_b4:(h.toList==[115,116,111,112])=false)(i:d<w.heap.size)(C:ai w d po (ab y.1.1))(D:ai w d (po+1) (ab y.1.2.1))(E:ai w d (po+2) (af y.1.2.2))(F:ai w d (po+3) (ae y.2.1.1 y.2.2.length y.2.1.2))(m:Hid (∀w1,am w w1->ao 104 #[.agg #[ab k,ab A,af s,ae xa B xc]] w1 λe w'=>e=.returned (.tuple #[af h,ae (some ⟨d,po,none⟩) 1 c])/\am w1 w'))(l:Hid (∀w1,am w w1->ao 56 #[.agg #[ab y.1.1,ab y.1.2.1,af y.1.2.2,ae y.2.1.1 y.2.2.length y.2.1.2]] w1 λe w'=>∃a:Tm (n+1),e=.returned (.agg #[ab a.1.1,ab a.1.2.1,af a.1.2.2,ae a.2.1.1 a.2.2.length a.2.1.2])/\Hid (am w1 w'/\In w'.heap.size w' (n+1) a/\cD (λq=>w1.heap.size<=q) (n+1) a/\aB (n+1) a (n+1) y=true))):ao 182 #[.agg #[ab k,ab A,af s,ae xa B xc]] w (oq M o w):=by
 go_enter func182,ntmps182;go_wp2_with fail;refine(m _ (by go_grown)).mono ?_;rintro e w1 ⟨rfl,t⟩;obtain⟨K,x,u,S⟩:=eS t;have b:=ap u;have p:=ap x;clear t K x u m;replace C:=(aw b _ _ i).trans C;replace D:=(aw b _ _ i).trans D;replace E:=(aw b _ _ i).trans E;replace F:=(aw b _ _ i).trans F;have P:d<w1.heap.size:=by omega
 go_wp2_with fail;refine(l _ b).mono ?_;rintro e w2 ⟨a,rfl,f⟩;have G:Hid (am w w2):=b.trans (f.1.mono b.size);have r:=ap ((f.1.block (w.heap.size+1) (by omega)).trans p);obtain⟨⟨d0,d1,d2,d3,d4,d5,d6,d7,d8,d9,d10⟩,f0,R⟩:=mP r;have j:=jq (M:=M) I f.2.1 (f.2.2.1.mono λq (Q:w1.heap.size<=q)=>(show w.heap.size+1<q by omega)) f.2.2.2;clear l p r;go_wp2_with fail;refine ay (v:=.tuple #[.agg #[ab 3,ab a.1.1,ab a.1.2.1,af a.1.2.2,ae a.2.1.1 a.2.2.length a.2.1.2,ab 0,ab 0,af ⟨#[]⟩,ae none 0 0,af ⟨#[]⟩,ab 0],.bool true]) (by simp[results,results182,go_sem,d0,d1,d2,d3,d4,d5,d6,d7,d8,d9,d10]) rfl ?_;have e:gH (M+1) (3,(bf (M+1) (n+1) a,zT M),(.empty,0))=[ab 3,ab a.1.1,ab a.1.2.1,af a.1.2.2,ae a.2.1.1 a.2.2.length a.2.1.2,ab 0,ab 0,af ⟨#[]⟩,ae none 0 0,af ⟨#[]⟩,ab 0]:=by
  show ab 3::(iQ (M+1) (bf (M+1) (n+1) a)++iQ (M+1) (zT M)++ [af .empty,ab 0])=_;rw[gS];rfl
 have z:=λ(w':ag)(H:bU (w.heap.size+1) w2 w')=>nY (g:=w.heap.size+1) (w2:=w2) (w:=w) (3,(bf (M+1) (n+1) a,zT M),(.empty,0)) _ J H G (by omega) ⟨by simp[dN],j.1,lW _ _ _,aM _,by simp[dN]⟩ ⟨j.2.1,aj rfl⟩ ⟨rfl,j.2.2,mn (lW _ 0 w),rfl⟩;rw[e]at z;exact z _ (kI _ _ _ _ _ _ _ _ _ _ _ _ _)
theorem NU{g a po:Nat}{w w':ag}{y x:Nd}(d:a<g)(c:bU g w w')(k:(ai w a po (ab y.1.1)/\ai w a (po+1) (ab y.1.2.1)/\ai w a (po+2) (af y.1.2.2)/\ai w a (po+3) (ae y.2.1 y.2.2.1 y.2.2.2))/\(ai w a (po+4) (ab x.1.1)/\ai w a (po+5) (ab x.1.2.1)/\ai w a (po+6) (af x.1.2.2)/\ai w a (po+7) (ae x.2.1 x.2.2.1 x.2.2.2))):(ai w' a po (ab y.1.1)/\ai w' a (po+1) (ab y.1.2.1)/\ai w' a (po+2) (af y.1.2.2)/\ai w' a (po+3) (ae y.2.1 y.2.2.1 y.2.2.2))/\(ai w' a (po+4) (ab x.1.1)/\ai w' a (po+5) (ab x.1.2.1)/\ai w' a (po+6) (af x.1.2.2)/\ai w' a (po+7) (ae x.2.1 x.2.2.1 x.2.2.2)):=by
 have b:=λo=>gC c (show a≠g by omega) o;exact⟨⟨(b _).trans k.1.1,(b _).trans k.1.2.1,(b _).trans k.1.2.2.1,(b _).trans k.1.2.2.2⟩,(b _).trans k.2.1,(b _).trans k.2.2.1,(b _).trans k.2.2.2.1,(b _).trans k.2.2.2.2⟩
theorem Ax(M n:Nat)(k R:Int)(s:aq)(xa:ar)(S xc:Nat)(l:aq)(a po c:Nat)(w:ag)(y x:Tm (n+1))(O:n+1<=M+1)(o:Option (Ac (M+1)))(aa:Hid (o=some (1,(bf (M+1) (n+1) y,bf (M+1) (n+1) x),(.empty,0))))(al:(l.toList==[115,101,110,100])=true)(_b2:(l.toList==[115,112,97,119,110])=false)(_b3:(l.toList==[108,105,110,107])=false)(_b4:(l.toList==[115,116,111,112])=false)(h:a<w.heap.size)(E:ai w a po (ab y.1.1))(F:ai w a (po+1) (ab y.1.2.1))(G:ai w a (po+2) (af y.1.2.2))(H:ai w a (po+3) (ae y.2.1.1 y.2.2.length y.2.1.2))(A:ai w a (po+4) (ab x.1.1))(B:ai w a (po+5) (ab x.1.2.1))(C:ai w a (po+6) (af x.1.2.2))(D:ai w a (po+7) (ae x.2.1.1 x.2.2.length x.2.1.2))(K:Hid (∀w1,am w w1->ao 104 #[.agg #[ab k,ab R,af s,ae xa S xc]] w1 λe w'=>e=.returned (.tuple #[af l,ae (some ⟨a,po,none⟩) 2 c])/\am w1 w'))(I:Hid (∀w1,am w w1->ao 56 #[.agg #[ab y.1.1,ab y.1.2.1,af y.1.2.2,ae y.2.1.1 y.2.2.length y.2.1.2]] w1 λe w'=>∃b:Tm (n+1),e=.returned (.agg #[ab b.1.1,ab b.1.2.1,af b.1.2.2,ae b.2.1.1 b.2.2.length b.2.1.2])/\Hid (am w1 w'/\In w'.heap.size w' (n+1) b/\cD (λq=>w1.heap.size<=q) (n+1) b/\aB (n+1) b (n+1) y=true)))(J:Hid (∀w1,am w w1->ao 56 #[.agg #[ab x.1.1,ab x.1.2.1,af x.1.2.2,ae x.2.1.1 x.2.2.length x.2.1.2]] w1 λe w'=>∃b:Tm (n+1),e=.returned (.agg #[ab b.1.1,ab b.1.2.1,af b.1.2.2,ae b.2.1.1 b.2.2.length b.2.1.2])/\Hid (am w1 w'/\In w'.heap.size w' (n+1) b/\cD (λq=>w1.heap.size<=q) (n+1) b/\aB (n+1) b (n+1) x=true))):ao 182 #[.agg #[ab k,ab R,af s,ae xa S xc]] w (oq M o w):=by
 go_enter func182,ntmps182;go_wp2_with fail;refine(K _ (by go_grown)).mono ?_;rintro e w1 ⟨rfl,L⟩;obtain⟨aj,P,N,av⟩:=eS L;have d:=ap N;have V:=ap P;clear L aj P N K;replace E:=(aw d _ _ h).trans E;replace F:=(aw d _ _ h).trans F;replace G:=(aw d _ _ h).trans G;replace H:=(aw d _ _ h).trans H;replace A:=(aw d _ _ h).trans A;replace B:=(aw d _ _ h).trans B;replace C:=(aw d _ _ h).trans C;replace D:=(aw d _ _ h).trans D;have ad:a<w1.heap.size:=by omega
 have p:Hid (∀w',am w1 w'->(ai w' a po (ab y.1.1)/\ai w' a (po+1) (ab y.1.2.1)/\ai w' a (po+2) (af y.1.2.2)/\ai w' a (po+3) (ae y.2.1.1 y.2.2.length y.2.1.2))/\(ai w' a (po+4) (ab x.1.1)/\ai w' a (po+5) (ab x.1.2.1)/\ai w' a (po+6) (af x.1.2.2)/\ai w' a (po+7) (ae x.2.1.1 x.2.2.length x.2.1.2))):=λw' X=>by
  have f:=λo=>aw X a o ad;exact⟨⟨(f _).trans E,(f _).trans F,(f _).trans G,(f _).trans H⟩,(f _).trans A,(f _).trans B,(f _).trans C,(f _).trans D⟩
 go_wp2_with fail
 go_region_held3 (λw'=>(w'.cell? ⟨a,po,none⟩=some (ab y.1.1)/\w'.cell? ⟨a,po+1,none⟩=some (ab y.1.2.1)/\w'.cell? ⟨a,po+2,none⟩=some (af y.1.2.2)/\w'.cell? ⟨a,po+3,none⟩=some (ae y.2.1.1 y.2.2.length y.2.1.2))/\(w'.cell? ⟨a,po+4,none⟩=some (ab x.1.1)/\w'.cell? ⟨a,po+5,none⟩=some (ab x.1.2.1)/\w'.cell? ⟨a,po+6,none⟩=some (af x.1.2.2)/\w'.cell? ⟨a,po+7,none⟩=some (ae x.2.1.1 x.2.2.length x.2.1.2))) (first|with_reducible assumption|with_reducible exact p.out _ m.out|with_reducible exact p.out _ j.out|with_reducible exact U.out _ (kI _ _ _ _ _ _ _ _ _ _ _ _ _)|exact p.out _ (aA _ _).drew)
  ((first
   | (go_at_call 56;refine(I _ d.drew).mono ?_;rintro e w2 ⟨b,rfl,r⟩;have j:=ap (dc r.1);clear I)
   | (go_at_call 56;refine(J _ (d.trans (j.mono d.size))).mono ?_;rintro e t ⟨q,rfl,i⟩;have m:=ap (j.trans (i.1.mono j.size));clear J;have W:=ap ((m.block (w.heap.size+1) (by omega)).trans V);obtain⟨⟨d0,d1,d2,d3,d4,d5,d6,d7,d8,d9,d10⟩,f0,au⟩:=mP W;have U:Hid (∀w',bU (w.heap.size+1) t w'->(ai w' a po (ab y.1.1)/\ai w' a (po+1) (ab y.1.2.1)/\ai w' a (po+2) (af y.1.2.2)/\ai w' a (po+3) (ae y.2.1.1 y.2.2.length y.2.1.2))/\(ai w' a (po+4) (ab x.1.1)/\ai w' a (po+5) (ab x.1.2.1)/\ai w' a (po+6) (af x.1.2.2)/\ai w' a (po+7) (ae x.2.1.1 x.2.2.length x.2.1.2))):=(λak Z=>NU (y:=bO n y) (x:=bO n x) (show a<w.heap.size+1 by omega) Z (p _ m)))))
 go_wp2_with fail;have T:Hid (am w t):=d.trans (m.mono d.size);have an:w1.heap.size<=w2.heap.size:=j.size;have u:=jq (M:=M) O ((r.2.1.below i.1).mono i.1.size) (r.2.2.1.mono λq (ah:w1.heap.size<=q)=>(show w.heap.size+1<q by omega)) r.2.2.2;have z:=jq (M:=M) O i.2.1 (i.2.2.1.mono λq (ah:w2.heap.size<=q)=>(show w.heap.size+1<q by omega)) i.2.2.2;refine ay (v:=.tuple #[.agg #[ab 1,ab b.1.1,ab b.1.2.1,af b.1.2.2,ae b.2.1.1 b.2.2.length b.2.1.2,ab q.1.1,ab q.1.2.1,af q.1.2.2,ae q.2.1.1 q.2.2.length q.2.1.2,af ⟨#[]⟩,ab 0],.bool true]) (by simp[results,results182,go_sem,d0,d1,d2,d3,d4,d5,d6,d7,d8,d9,d10]) rfl ?_;have e:gH (M+1) (1,(bf (M+1) (n+1) b,bf (M+1) (n+1) q),(.empty,0))=[ab 1,ab b.1.1,ab b.1.2.1,af b.1.2.2,ae b.2.1.1 b.2.2.length b.2.1.2,ab q.1.1,ab q.1.2.1,af q.1.2.2,ae q.2.1.1 q.2.2.length q.2.1.2,af ⟨#[]⟩,ab 0]:=by
  show ab 1::(iQ (M+1) (bf (M+1) (n+1) b)++iQ (M+1) (bf (M+1) (n+1) q)++ [af .empty,ab 0])=_;rw[gS,gS];rfl
 have Q:=λ(w':ag)(Y:bU (w.heap.size+1) t w')=>nY (g:=w.heap.size+1) (w2:=t) (w:=w) (1,(bf (M+1) (n+1) b,bf (M+1) (n+1) q),(.empty,0)) _ aa Y T (by omega) ⟨by simp[dN],u.1,z.1,aM _,by simp[dN]⟩ ⟨u.2.1,z.2.1⟩ ⟨rfl,u.2.2,z.2.2,rfl⟩;rw[e]at Q;exact Q _ (kI _ _ _ _ _ _ _ _ _ _ _ _ _)
theorem NV{n g a po:Nat}{w w':ag}{y x t:Tm (n+1)}(d:a<g)(c:bU g w w')(k:(ai w a po (ab y.1.1)/\ai w a (po+1) (ab y.1.2.1)/\ai w a (po+2) (af y.1.2.2)/\ai w a (po+3) (ae y.2.1.1 y.2.2.length y.2.1.2))/\(ai w a (po+4) (ab x.1.1)/\ai w a (po+5) (ab x.1.2.1)/\ai w a (po+6) (af x.1.2.2)/\ai w a (po+7) (ae x.2.1.1 x.2.2.length x.2.1.2))/\(ai w a (po+8) (ab t.1.1)/\ai w a (po+9) (ab t.1.2.1)/\ai w a (po+10) (af t.1.2.2)/\ai w a (po+11) (ae t.2.1.1 t.2.2.length t.2.1.2))):(ai w' a po (ab y.1.1)/\ai w' a (po+1) (ab y.1.2.1)/\ai w' a (po+2) (af y.1.2.2)/\ai w' a (po+3) (ae y.2.1.1 y.2.2.length y.2.1.2))/\(ai w' a (po+4) (ab x.1.1)/\ai w' a (po+5) (ab x.1.2.1)/\ai w' a (po+6) (af x.1.2.2)/\ai w' a (po+7) (ae x.2.1.1 x.2.2.length x.2.1.2))/\(ai w' a (po+8) (ab t.1.1)/\ai w' a (po+9) (ab t.1.2.1)/\ai w' a (po+10) (af t.1.2.2)/\ai w' a (po+11) (ae t.2.1.1 t.2.2.length t.2.1.2)):=by
 have b:=λo=>gC c (show a≠g by omega) o;exact⟨⟨(b _).trans k.1.1,(b _).trans k.1.2.1,(b _).trans k.1.2.2.1,(b _).trans k.1.2.2.2⟩,⟨(b _).trans k.2.1.1,(b _).trans k.2.1.2.1,(b _).trans k.2.1.2.2.1,(b _).trans k.2.1.2.2.2⟩,(b _).trans k.2.2.1,(b _).trans k.2.2.2.1,(b _).trans k.2.2.2.2.1,(b _).trans k.2.2.2.2.2⟩
theorem xy(M n:Nat)(k S:Int)(s:aq)(xa:ar)(T xc:Nat)(j:aq)(d po c:Nat)(w:ag)(y x t:Tm (n+1))(o:Option (Ac (M+1)))(ak:(j.toList==[115,101,110,100])=false)(al:(j.toList==[115,112,97,119,110])=true)(_b3:(j.toList==[108,105,110,107])=false)(_b4:(j.toList==[115,116,111,112])=false)(h:d<w.heap.size)(F:ai w d po (ab y.1.1))(G:ai w d (po+1) (ab y.1.2.1))(H:ai w d (po+2) (af y.1.2.2))(I:ai w d (po+3) (ae y.2.1.1 y.2.2.length y.2.1.2))(B:ai w d (po+4) (ab x.1.1))(C:ai w d (po+5) (ab x.1.2.1))(D:ai w d (po+6) (af x.1.2.2))(E:ai w d (po+7) (ae x.2.1.1 x.2.2.length x.2.1.2))(q:ai w d (po+8) (ab t.1.1))(r:ai w d (po+9) (ab t.1.2.1))(u:ai w d (po+10) (af t.1.2.2))(z:ai w d (po+11) (ae t.2.1.1 t.2.2.length t.2.1.2))(K:Hid (∀w1,am w w1->ao 104 #[.agg #[ab k,ab S,af s,ae xa T xc]] w1 λe w'=>e=.returned (.tuple #[af j,ae (some ⟨d,po,none⟩) 3 c])/\am w1 w'))(J:Hid (∀w1,am w w1->ao 196 #[.agg #[ab y.1.1,ab y.1.2.1,af y.1.2.2,ae y.2.1.1 y.2.2.length y.2.1.2],.agg #[ab x.1.1,ab x.1.2.1,af x.1.2.2,ae x.2.1.1 x.2.2.length x.2.1.2],.agg #[ab t.1.1,ab t.1.2.1,af t.1.2.2,ae t.2.1.1 t.2.2.length t.2.1.2]] w1 (oq M o w1))):ao 182 #[.agg #[ab k,ab S,af s,ae xa T xc]] w (oq M o w):=by
 go_enter func182,ntmps182;go_wp2_with fail;refine(K _ (by go_grown)).mono ?_;rintro e w1 ⟨rfl,N⟩;obtain⟨ah,R,O,av⟩:=eS N;have f:=ap O;have W:=ap R;clear N ah R O K;replace F:=(aw f _ _ h).trans F;replace G:=(aw f _ _ h).trans G;replace H:=(aw f _ _ h).trans H;replace I:=(aw f _ _ h).trans I;replace B:=(aw f _ _ h).trans B;replace C:=(aw f _ _ h).trans C;replace D:=(aw f _ _ h).trans D;replace E:=(aw f _ _ h).trans E;replace q:=(aw f _ _ h).trans q;replace r:=(aw f _ _ h).trans r;replace u:=(aw f _ _ h).trans u;replace z:=(aw f _ _ h).trans z;have ad:d<w1.heap.size:=by omega
 have p:Hid (∀w',am w1 w'->(ai w' d po (ab y.1.1)/\ai w' d (po+1) (ab y.1.2.1)/\ai w' d (po+2) (af y.1.2.2)/\ai w' d (po+3) (ae y.2.1.1 y.2.2.length y.2.1.2))/\(ai w' d (po+4) (ab x.1.1)/\ai w' d (po+5) (ab x.1.2.1)/\ai w' d (po+6) (af x.1.2.2)/\ai w' d (po+7) (ae x.2.1.1 x.2.2.length x.2.1.2))/\(ai w' d (po+8) (ab t.1.1)/\ai w' d (po+9) (ab t.1.2.1)/\ai w' d (po+10) (af t.1.2.2)/\ai w' d (po+11) (ae t.2.1.1 t.2.2.length t.2.1.2))):=λw' Z=>by
  have g:=λo=>aw Z d o ad;exact⟨⟨(g _).trans F,(g _).trans G,(g _).trans H,(g _).trans I⟩,⟨(g _).trans B,(g _).trans C,(g _).trans D,(g _).trans E⟩,(g _).trans q,(g _).trans r,(g _).trans u,(g _).trans z⟩
 go_wp2_with fail
 go_region_held3 (λw'=>(w'.cell? ⟨d,po,none⟩=some (ab y.1.1)/\w'.cell? ⟨d,po+1,none⟩=some (ab y.1.2.1)/\w'.cell? ⟨d,po+2,none⟩=some (af y.1.2.2)/\w'.cell? ⟨d,po+3,none⟩=some (ae y.2.1.1 y.2.2.length y.2.1.2))/\(w'.cell? ⟨d,po+4,none⟩=some (ab x.1.1)/\w'.cell? ⟨d,po+5,none⟩=some (ab x.1.2.1)/\w'.cell? ⟨d,po+6,none⟩=some (af x.1.2.2)/\w'.cell? ⟨d,po+7,none⟩=some (ae x.2.1.1 x.2.2.length x.2.1.2))/\(w'.cell? ⟨d,po+8,none⟩=some (ab t.1.1)/\w'.cell? ⟨d,po+9,none⟩=some (ab t.1.2.1)/\w'.cell? ⟨d,po+10,none⟩=some (af t.1.2.2)/\w'.cell? ⟨d,po+11,none⟩=some (ae t.2.1.1 t.2.2.length t.2.1.2))) (first|with_reducible assumption|with_reducible exact p.out _ l.out|with_reducible exact V.out _ (kI _ _ _ _ _ _ _ _ _ _ _ _ _)|exact p.out _ (aA _ _).drew)
  ((go_at_call 196;refine(J _ f.drew).mono ?_;rintro e A ⟨a,b,rfl,i⟩;have L:Value.agg (gH (M+1) a).toArray=.agg #[ab a.1,ab a.2.1.1.1.1,ab a.2.1.1.1.2.1,af a.2.1.1.1.2.2,ae a.2.1.1.2.1.1 a.2.1.1.2.2.length a.2.1.1.2.1.2,ab a.2.1.2.1.1,ab a.2.1.2.1.2.1,af a.2.1.2.1.2.2,ae a.2.1.2.2.1.1 a.2.1.2.2.2.length a.2.1.2.2.1.2,af a.2.2.1,ab a.2.2.2]:=rfl;rw[L];clear L;have l:=ap (dc i.1);clear J;have X:=ap ((l.block (w.heap.size+1) (by omega)).trans W);obtain⟨⟨d0,d1,d2,d3,d4,d5,d6,d7,d8,d9,d10⟩,f0,au⟩:=mP X;have V:=ap (λY (aa:bU (w.heap.size+1) A Y)=>NV (y:=y) (x:=x) (t:=t) (show d<w.heap.size+1 by omega) aa (p _ l))))
 go_wp2_with fail;have U:Hid (am w A):=f.trans (l.mono f.size);refine ay (v:=.tuple #[.agg #[ab a.1,ab a.2.1.1.1.1,ab a.2.1.1.1.2.1,af a.2.1.1.1.2.2,ae a.2.1.1.2.1.1 a.2.1.1.2.2.length a.2.1.1.2.1.2,ab a.2.1.2.1.1,ab a.2.1.2.1.2.1,af a.2.1.2.1.2.2,ae a.2.1.2.2.1.1 a.2.1.2.2.2.length a.2.1.2.2.1.2,af a.2.2.1,ab a.2.2.2],.bool b]) (by simp[results,results182,go_sem,d0,d1,d2,d3,d4,d5,d6,d7,d8,d9,d10]) rfl ?_;have aj:∀w',bU (w.heap.size+1) A w'->oq M o w (.returned (.tuple #[.agg #[ab a.1,ab a.2.1.1.1.1,ab a.2.1.1.1.2.1,af a.2.1.1.1.2.2,ae a.2.1.1.2.1.1 a.2.1.1.2.2.length a.2.1.1.2.1.2,ab a.2.1.2.1.1,ab a.2.1.2.1.2.1,af a.2.1.2.1.2.2,ae a.2.1.2.2.1.1 a.2.1.2.2.2.length a.2.1.2.2.1.2,af a.2.2.1,ab a.2.2.2],.bool b])) w':=λw' Q=>⟨a,b,rfl,Q.below U (by omega),i.2.1,Q.stays (f9 _) (P:=λm=>w1.heap.size<=m) (by omega) i.2.2.2.1 i.2.2.1,(f9 _).1 _ _ _ (λm (an:w1.heap.size<=m)=>(show w.heap.size<=m by omega)) i.2.2.2.1,i.2.2.2.2⟩;exact aj _ (kI _ _ _ _ _ _ _ _ _ _ _ _ _)
theorem iN{n B:Nat}{w:ag}{q:List (Tm (n+1))}{e po:Nat}(a:fZ B w (n+1) q (some ⟨e,po,none⟩)){i:Nat}{y:Tm (n+1)}(d:q[i]?=some y):dH w e (po+i*4) (n+1) y/\In B w (n+1) y/\e<B:=by
 rcases a with a|⟨b,o,c,h,a⟩
 ·subst a;simp at d
 ·injection c with c;injection c with f g;subst f g;exact⟨(a i y d).1,(a i y d).2,h⟩
theorem sK{B:Nat}{w:ag}{q:List (Tm 0)}{a:ar}(b:fZ B w 0 q a){i:Nat}{y:Tm 0}(c:q[i]?=some y):False:=by
 rcases b with b|⟨_,_,_,_,b⟩
 ·subst b;simp at c
 ·exact(b i y c).1
theorem rT{n B:Nat}{w:ag}{q:List (Tm n)}{a:ar}(c:fZ B w n q a)(e:0<q.length):∃b o,a=some ⟨b,o,none⟩:=by
 rcases c with c|⟨b,o,d,_⟩
 ·subst c;simp at e
 ·exact⟨b,o,d⟩
theorem eR{n:Nat}{x:Tm (n+1)}(b:aJ ⟨n+1,x⟩){y:Tm n}(a:y∈bZ n x):aJ ⟨n,y⟩:=by
 unfold bZ at a;split at a
 ·split at a
  ·split at a
   ·exact bj n x y b (List.mem_of_mem_drop a)
   ·cases a
  ·cases a
 ·cases a
theorem si(n:Nat)(x:Tm (n+1))(B:Nat)(w:ag)(D:In B w (n+1) x)(J:B<=w.heap.size):∃a c,fZ B w n (bZ n x) a/\(bZ n x).length<=c/\c<=9223372036854775807/\∀w1,am w w1->ao 104 #[.agg #[ab x.1.1,ab x.1.2.1,af x.1.2.2,ae x.2.1.1 x.2.2.length x.2.1.2]] w1 λe w'=>e=.returned (.tuple #[af (fA n x),.slice a (bZ n x).length c])/\am w1 w':=by
 obtain⟨⟨k,h,g⟩,⟨a,c⟩,f⟩:=x;obtain⟨⟨_,_,_,s,y⟩,i⟩:=D;simp only at s y i ⊢;have C:c<=9223372036854775807:=by unfold maxLen at y;omega
 by_cases t:k=4
 ·subst t;rcases i with i|⟨b,o,rfl,A,i⟩
  ·subst i;exact⟨none,0,aj rfl,av _,aM _,λw1 _=>Cm h g a c w1⟩
  ·cases f with
   | nil=>exact⟨none,0,aj rfl,av _,aM _,λw1 _=>Cm h g _ c w1⟩
   | cons d f=>
    obtain⟨r,I⟩:=i 0 d rfl;cases n with
    | zero=>exact r.elim
    | succ n=>
    obtain⟨u,G,z,H⟩:=r;by_cases l:d.1.1=2
    ·have p:fA (n+1) ((4,h,g),(some ⟨b,o,none⟩,c),d::f)=d.1.2.2:=by simp[fA,cg,l,gK,bO]
     have q:bZ (n+1) ((4,h,g),(some ⟨b,o,none⟩,c),d::f)=f:=by simp[bZ,cg,l]
     rw[p,q];refine⟨if c=1 then some ⟨b,o,none⟩else some ⟨b,o+4,none⟩,c-1,?_,by simp at s;omega,by omega,λw1 m=>?_⟩
     ·by_cases r:c=1
      ·exact aj (bL (by simp at s;omega))
      ·rw[if_neg r];refine ak ⟨b,o+4,rfl,A,λv F E=>?_⟩;have:=i (v+1) F (by simpa using E);rw[show o+4+v*4=o+(v+1)*4 by omega];exact this
     ·have j:b<w.heap.size:=by omega
      have d:=Iu h g b o (d::f).length c (by simp) s C d.1.2.2 w1 (aW j m.size) ((aw m _ _ j).trans (by rw[l]at u;simpa using u)) ((aw m _ _ j).trans (by simpa using z));exact d
    ·have p:fA (n+1) ((4,h,g),(some ⟨b,o,none⟩,c),d::f)=⟨#[]⟩:=by simp[fA,cg,l];rfl
     have q:bZ (n+1) ((4,h,g),(some ⟨b,o,none⟩,c),d::f)=[]:=by simp[bZ,cg,l]
     rw[p,q];have j:b<w.heap.size:=by omega
     exact⟨none,0,aj rfl,av _,aM _,λw1 m=>Ex h g b o (d::f).length c (by simp) d.1.1 (by simpa using l) w1 (aW j m.size) ((aw m _ _ j).trans (by simpa using u))⟩
 ·have p:fA n ((k,h,g),(a,c),f)=⟨#[]⟩:=by simp[fA,t];rfl
  have q:bZ n ((k,h,g),(a,c),f)=[]:=by simp[bZ,t]
  rw[p,q];exact⟨none,0,aj rfl,av _,aM _,λw1 _=>Iv k h g a f.length c w1 (by simpa using t)⟩
theorem mU{n:Nat}{y:Tm (n+1)}{B:Nat}{w:ag}(f:In B w (n+1) y)(d:aJ ⟨n+1,y⟩)(c:B<=w.heap.size):∀w1,am w w1->ao 56 #[.agg #[ab y.1.1,ab y.1.2.1,af y.1.2.2,ae y.2.1.1 y.2.2.length y.2.1.2]] w1 λe w'=>∃a:Tm (n+1),e=.returned (.agg #[ab a.1.1,ab a.1.2.1,af a.1.2.2,ae a.2.1.1 a.2.2.length a.2.1.2])/\Hid (am w1 w'/\In w'.heap.size w' (n+1) a/\cD (λq=>w1.heap.size<=q) (n+1) a/\aB (n+1) a (n+1) y=true):=
 λw1 b=>iL (n+1) y B w1 (f.below (b.mono c)) (aF c b.size) d
theorem pe{a:Bool}(b:¬a=true):a=false:=by cases a<;>simp_all
theorem Ph{l k:Nat}(a:l=k):((l:Int)==(k:Int))=true:=by simp[a]
theorem vS{l k:Nat}(a:¬l=k):((l:Int)==(k:Int))=false:=by simp;omega
theorem CC(M n:Nat)(ah:n<=M+1)(x:Tm n)(B:Nat)(w:ag)(P:In B w n x)(X:aJ ⟨n,x⟩)(r:B<=w.heap.size):ao 182 #[dG n x] w (oq M (tg M n x) w):=by
 cases n with
 | zero=>exact P.elim
 | succ n=>
 obtain⟨z,c,o,ad,aa,m⟩:=si n x B w P r;show ao 182 #[.agg #[ab x.1.1,ab x.1.2.1,af x.1.2.2,ae x.2.1.1 x.2.2.length x.2.1.2]] w (oq M (ki M n (fA n x) (bZ n x)) w);have G:∀j∈bZ n x,aJ ⟨n,j⟩:=λj k=>eR X k;generalize fA n x=a at*;generalize bZ n x=d at*;have p:tK a nt=(a.toList==[115,101,110,100]):=nV a [115,101,110,100];have q:tK a jy=(a.toList==[115,112,97,119,110]):=nV a [115,112,97,119,110];have u:tK a ns=(a.toList==[108,105,110,107]):=nV a [108,105,110,107];have y:tK a mC=(a.toList==[115,116,111,112]):=nV a [115,116,111,112];have ne:∀(l L:List UInt8),(l==L)=false->(a.toList==l)=true->(a.toList==L)=false:=λl L A V=>by
  have Q:a.toList=l:=by simpa using V
  rw[Q];exact A
 have get:∀J,J<d.length->∃j,d[J]?=some j:=λJ W=>⟨d[J],aN W⟩;by_cases b:(a.toList==[115,101,110,100])=true
 ·have e:=ne _ [115,112,97,119,110] (by decide) b;have f:=ne _ [108,105,110,107] (by decide) b;have g:=ne _ [115,116,111,112] (by decide) b;by_cases h:d.length=2
  ·obtain⟨j,k⟩:=get 0 (by omega);obtain⟨s,v⟩:=get 1 (by omega);have i:ki M n a d=some (1,(bf (M+1) n j,bf (M+1) n s),(.empty,0)):=by
    unfold ki;rw[if_pos (by rw[p,b,h];rfl),k,v];rfl
   rw[i];rw[h]at m;obtain⟨I,po,rfl⟩:=rT o (by omega);cases n with
   | zero=>exact(sK o k).elim
   | succ n=>
   obtain⟨⟨C,D,E,F⟩,H,N⟩:=iN o k;obtain⟨⟨d0,d1,d2,d3⟩,K,_⟩:=iN o v;exact Ax M n _ _ _ _ _ _ a I po c w j s (by omega) _ rfl b e f g (by omega) (by simpa using C) (by simpa using D) (by simpa using E) (by simpa using F) (by simpa using d0) (by simpa using d1) (by simpa using d2) (by simpa using d3) m (mU H (G j (aL k)) r) (mU K (G s (aL v)) r)
  ·have i:ki M n a d=none:=by simp[ki,p,q,u,y,e,f,g,h]
   exact jU M n _ _ _ _ _ _ a z d.length c w _ i b e f g (ak (aj ⟨rfl,rfl,rfl,rfl,vS h⟩)) m
 replace b:=pe b;by_cases e:(a.toList==[115,112,97,119,110])=true
 ·have f:=ne _ [108,105,110,107] (by decide) e;have g:=ne _ [115,116,111,112] (by decide) e;by_cases h:d.length=3
  ·obtain⟨j,k⟩:=get 0 (by omega);obtain⟨s,v⟩:=get 1 (by omega);obtain⟨t,O⟩:=get 2 (by omega);have i:ki M n a d=Au M n j s t:=by
    unfold ki;rw[if_neg (by rw[p,b];simp),if_pos (by rw[q,e,h];rfl),k,v,O];rfl
   rw[i];rw[h]at m;obtain⟨I,po,rfl⟩:=rT o (by omega);cases n with
   | zero=>exact(sK o k).elim
   | succ n=>
   obtain⟨⟨C,D,E,F⟩,H,N⟩:=iN o k;obtain⟨⟨d0,d1,d2,d3⟩,K,_⟩:=iN o v;obtain⟨⟨R,S,T,U⟩,Y,_⟩:=iN o O;exact xy M n _ _ _ _ _ _ a I po c w j s t _ b e f g (by omega) (by simpa using C) (by simpa using D) (by simpa using E) (by simpa using F) (by simpa using d0) (by simpa using d1) (by simpa using d2) (by simpa using d3) (by simpa using R) (by simpa using S) (by simpa using T) (by simpa using U) m (λZ A=>xA M n (by omega) j s t B Z (H.below (A.mono r)) (K.below (A.mono r)) (Y.below (A.mono r)) (G j (aL k)) (G s (aL v)) (aF r A.size))
  ·have i:ki M n a d=none:=by simp[ki,p,q,u,y,b,f,g,h]
   exact jU M n _ _ _ _ _ _ a z d.length c w _ i b e f g (ak (ak (aj ⟨rfl,rfl,rfl,rfl,vS h⟩))) m
 replace e:=pe e;by_cases f:(a.toList==[108,105,110,107])=true
 ·have g:=ne _ [115,116,111,112] (by decide) f;by_cases h:d.length=1
  ·obtain⟨j,k⟩:=get 0 (by omega);have i:ki M n a d=some (3,(bf (M+1) n j,zT M),(.empty,0)):=by
    unfold ki;rw[if_neg (by rw[p,b];simp),if_neg (by rw[q,e];simp),if_pos (by rw[u,f,h];rfl),k];rfl
   rw[i];rw[h]at m;obtain⟨I,po,rfl⟩:=rT o (by omega);cases n with
   | zero=>exact(sK o k).elim
   | succ n=>
   obtain⟨⟨C,D,E,F⟩,H,N⟩:=iN o k;exact Aw M n _ _ _ _ _ _ a I po c w j (by omega) _ rfl b e f g (by omega) (by simpa using C) (by simpa using D) (by simpa using E) (by simpa using F) m (mU H (G j (aL k)) r)
  ·have i:ki M n a d=none:=by simp[ki,p,q,u,y,b,e,g,h]
   exact jU M n _ _ _ _ _ _ a z d.length c w _ i b e f g (ak (ak (ak (aj ⟨rfl,rfl,rfl,rfl,vS h⟩)))) m
 replace f:=pe f;by_cases g:(a.toList==[115,116,111,112])=true
 ·by_cases h:d.length=0
  ·have i:ki M n a d=some (4,(zT M,zT M),(.empty,0)):=by simp[ki,p,q,u,y,b,e,f,g,h]
   rw[i];exact Ay M n _ _ _ _ _ _ a z d.length c w _ rfl b e f g (Ph h) m
  ·have i:ki M n a d=none:=by simp[ki,p,q,u,y,b,e,f,h]
   exact jU M n _ _ _ _ _ _ a z d.length c w _ i b e f g (ak (ak (ak (ak ⟨rfl,rfl,rfl,rfl,vS h⟩)))) m
 replace g:=pe g;have i:ki M n a d=none:=by simp[ki,p,q,u,y,b,e,f,g]
 exact jU M n _ _ _ _ _ _ a z d.length c w _ i b e f g (aj ⟨rfl,rfl,rfl,rfl⟩) m
abbrev jL(M:Nat)(o:Option (Cl (M+1)))(w:ag)(e:Ending)(w':ag):Prop:=rA (fy (M+1)) (iE (M+1)) (ku (M+1)) (Dv (M+1)) o w e w'
def Rb(M:Nat):Cl (M+1):=((zT M,zT M,zT M),(none,0),[])
theorem mI{M:Nat}{o:Option (Cl (M+1))}{w w':ag}(b:o=none)(a:am w w'):jL M o w (.returned (.tuple #[.agg #[ab 0,ab 0,af .empty,ae none 0 0,ab 0,ab 0,af .empty,ae none 0 0,ae none 0 0,ab 0,ab 0,af .empty,ae none 0 0],.bool false])) w':=by
 subst b;exact⟨Rb M,false,rfl,a,rfl,⟨⟨lW _ _ _,lW _ _ _,lW _ _ _⟩,⟨av _,aM _⟩,aj rfl⟩,⟨⟨aj rfl,aj rfl,aj rfl⟩,aj rfl⟩,λd c=>by cases c⟩
theorem ni{n:Nat}{m:Tm (n+1)}(c:aJ ⟨n+1,m⟩)(d:m.1.1=4):m.2.2.length<=8:=by
 have b:=c (bO n m) (by simp[aC,bO]);unfold cQ at b;have a:(bO n m).1.1=4:=d;rw[if_neg (by rw[a];omega),if_neg (by rw[a];omega),if_neg (by rw[a];omega),if_pos a]at b;simp only[aK,cw]at b;have e:(m.2.2.length:Int)<=8:=b.1.2;omega
theorem uC{w:ag}{q:Nat}{c0 b f g h i k l m n c d e:au}{t:TypeId}(a:w.heap[q]?=some (.cells #[c0,b,f,g,h,i,k,l,m,n,c,d,e] t)):(ai w q 0 c0/\ai w q 1 b/\ai w q 2 f/\ai w q 3 g/\ai w q 4 h/\ai w q 5 i/\ai w q 6 k/\ai w q 7 l/\ai w q 8 m/\ai w q 9 n/\ai w q 10 c/\ai w q 11 d/\ai w q 12 e)/\(∀j,w.frozen? ⟨q,j,none⟩=false)/\q<w.heap.size:=
 ⟨⟨ax a 0,ax a 1,ax a 2,ax a 3,ax a 4,ax a 5,ax a 6,ax a 7,ax a 8,ax a 9,ax a 10,ax a 11,ax a 12⟩,λj=>dm a j,(aI.1 a).1⟩
theorem ur(M _n:Nat)(k h:Int)(s:aq)(xa:ar)(j xc:Nat)(i:aq)(a:ar)(len c:Nat)(w:ag)(o:Option (Cl (M+1)))(n:Hid (o=none))(q:(i.toList==[111,110])=false)(b:Hid (∀w1,am w w1->ao 104 #[.agg #[ab k,ab h,af s,ae xa j xc]] w1 λe w'=>e=.returned (.tuple #[af i,ae a len c])/\am w1 w')):ao 144 #[.agg #[ab k,ab h,af s,ae xa j xc]] w (jL M o w):=by
 go_enter func144,ntmps144;go_wp2_with fail;refine(b _ (by go_grown)).mono ?_;rintro e w1 ⟨rfl,d⟩;obtain⟨p,g,f,t⟩:=eS d;have l:=ap f;have m:=ap g;clear d p g f b;obtain⟨⟨d0,d1,d2,d3,d4,d5,d6,d7,d8,d9,d10,d11,d12⟩,f0,r⟩:=uC m;go_wp2_with fail;exact ay (v:=.tuple #[.agg #[ab 0,ab 0,af .empty,ae none 0 0,ab 0,ab 0,af .empty,ae none 0 0,ae none 0 0,ab 0,ab 0,af .empty,ae none 0 0],.bool false]) (by simp[results,results144,go_sem,d0,d1,d2,d3,d4,d5,d6,d7,d8,d9,d10,d11,d12];rfl) rfl (mI n ((rR _ _ _ _ _ _ _ _ _ _ _ _ _ _ _).below l (by omega)))
theorem wG(M _n:Nat)(k h:Int)(s:aq)(xa:ar)(j xc:Nat)(i:aq)(a:ar)(len c:Nat)(w:ag)(o:Option (Cl (M+1)))(n:Hid (o=none))(q:(i.toList==[111,110])=true)(_hl:((len:Int)==4)=false)(r:((len:Int) !=4)=true)(b:Hid (∀w1,am w w1->ao 104 #[.agg #[ab k,ab h,af s,ae xa j xc]] w1 λe w'=>e=.returned (.tuple #[af i,ae a len c])/\am w1 w')):ao 144 #[.agg #[ab k,ab h,af s,ae xa j xc]] w (jL M o w):=by
 go_enter func144,ntmps144;go_wp2_with fail;refine(b _ (by go_grown)).mono ?_;rintro e w1 ⟨rfl,d⟩;obtain⟨p,g,f,u⟩:=eS d;have l:=ap f;have m:=ap g;clear d p g f b;obtain⟨⟨d0,d1,d2,d3,d4,d5,d6,d7,d8,d9,d10,d11,d12⟩,f0,t⟩:=uC m;go_wp2_with fail;exact ay (v:=.tuple #[.agg #[ab 0,ab 0,af .empty,ae none 0 0,ab 0,ab 0,af .empty,ae none 0 0,ae none 0 0,ab 0,ab 0,af .empty,ae none 0 0],.bool false]) (by simp[results,results144,go_sem,d0,d1,d2,d3,d4,d5,d6,d7,d8,d9,d10,d11,d12];rfl) rfl (mI n ((rR _ _ _ _ _ _ _ _ _ _ _ _ _ _ _).below l (by omega)))
theorem uo(M _n:Nat)(k l:Int)(s:aq)(xa:ar)(n xc:Nat)(m:aq)(a po c:Nat)(w:ag)(o:Option (Cl (M+1)))(q:Hid (o=none))(u:(m.toList==[111,110])=true)(r:a<w.heap.size)(j:Int)(f:ai w a (po+8) (ab j))(x:(j !=4)=true)(d:Hid (∀w1,am w w1->ao 104 #[.agg #[ab k,ab l,af s,ae xa n xc]] w1 λe w'=>e=.returned (.tuple #[af m,ae (some ⟨a,po,none⟩) 4 c])/\am w1 w')):ao 144 #[.agg #[ab k,ab l,af s,ae xa n xc]] w (jL M o w):=by
 go_enter func144,ntmps144;go_wp2_with fail;refine(d _ (by go_grown)).mono ?_;rintro e w1 ⟨rfl,g⟩;obtain⟨t,i,h,A⟩:=eS g;have b:=ap h;have p:=ap i;clear g t i h d;replace f:=(aw b _ _ r).trans f;have y:a<w1.heap.size:=by omega
 obtain⟨⟨d0,d1,d2,d3,d4,d5,d6,d7,d8,d9,d10,d11,d12⟩,f0,z⟩:=uC p;go_wp2_with fail;exact ay (v:=.tuple #[.agg #[ab 0,ab 0,af .empty,ae none 0 0,ab 0,ab 0,af .empty,ae none 0 0,ae none 0 0,ab 0,ab 0,af .empty,ae none 0 0],.bool false]) (by simp[results,results144,go_sem,d0,d1,d2,d3,d4,d5,d6,d7,d8,d9,d10,d11,d12];rfl) rfl (mI q ((rR _ _ _ _ _ _ _ _ _ _ _ _ _ _ _).below b (by omega)))
theorem NW{n g a po:Nat}{w w':ag}{y x t:Tm (n+1)}(d:a<g)(c:bU g w w')(k:(ai w a po (ab y.1.1)/\ai w a (po+1) (ab y.1.2.1)/\ai w a (po+2) (af y.1.2.2)/\ai w a (po+3) (ae y.2.1.1 y.2.2.length y.2.1.2))/\(ai w a (po+4) (ab x.1.1)/\ai w a (po+5) (ab x.1.2.1)/\ai w a (po+6) (af x.1.2.2)/\ai w a (po+7) (ae x.2.1.1 x.2.2.length x.2.1.2))/\(ai w a (po+12) (ab t.1.1)/\ai w a (po+13) (ab t.1.2.1)/\ai w a (po+14) (af t.1.2.2)/\ai w a (po+15) (ae t.2.1.1 t.2.2.length t.2.1.2))):(ai w' a po (ab y.1.1)/\ai w' a (po+1) (ab y.1.2.1)/\ai w' a (po+2) (af y.1.2.2)/\ai w' a (po+3) (ae y.2.1.1 y.2.2.length y.2.1.2))/\(ai w' a (po+4) (ab x.1.1)/\ai w' a (po+5) (ab x.1.2.1)/\ai w' a (po+6) (af x.1.2.2)/\ai w' a (po+7) (ae x.2.1.1 x.2.2.length x.2.1.2))/\(ai w' a (po+12) (ab t.1.1)/\ai w' a (po+13) (ab t.1.2.1)/\ai w' a (po+14) (af t.1.2.2)/\ai w' a (po+15) (ae t.2.1.1 t.2.2.length t.2.1.2)):=by
 have b:=λo=>gC c (show a≠g by omega) o;exact⟨⟨(b _).trans k.1.1,(b _).trans k.1.2.1,(b _).trans k.1.2.2.1,(b _).trans k.1.2.2.2⟩,⟨(b _).trans k.2.1.1,(b _).trans k.2.1.2.1,(b _).trans k.2.1.2.2.1,(b _).trans k.2.1.2.2.2⟩,(b _).trans k.2.2.1,(b _).trans k.2.2.2.1,(b _).trans k.2.2.2.2.1,(b _).trans k.2.2.2.2.2⟩
theorem uq(M n:Nat)(k aS:Int)(s:aq)(xa:ar)(aW xc:Nat)(aV:aq)(d po c:Nat)(w:ag)(y x m t:Tm (n+1))(aj:n+1<=M+1)(au:Option (List (Ac (M+1))))(o:Option (Cl (M+1)))(aL:Hid (o=au.map λl=>((bf (M+1) (n+1) y,bf (M+1) (n+1) x,bf (M+1) (n+1) t),(none,0),l)))(bl:(aV.toList==[111,110])=true)(h:d<w.heap.size)(Q:ai w d po (ab y.1.1))(R:ai w d (po+1) (ab y.1.2.1))(S:ai w d (po+2) (af y.1.2.2))(T:ai w d (po+3) (ae y.2.1.1 y.2.2.length y.2.1.2))(K:ai w d (po+4) (ab x.1.1))(L:ai w d (po+5) (ab x.1.2.1))(N:ai w d (po+6) (af x.1.2.2))(O:ai w d (po+7) (ae x.2.1.1 x.2.2.length x.2.1.2))(X:ai w d (po+8) (ab m.1.1))(ak:ai w d (po+9) (ab m.1.2.1))(al:ai w d (po+10) (af m.1.2.2))(an:ai w d (po+11) (ae m.2.1.1 m.2.2.length m.2.1.2))(G:ai w d (po+12) (ab t.1.1))(H:ai w d (po+13) (ab t.1.2.1))(I:ai w d (po+14) (af t.1.2.2))(J:ai w d (po+15) (ae t.2.1.1 t.2.2.length t.2.1.2))(a9:m.1.1=4)(aF:Hid (∀w1,am w w1->ao 104 #[.agg #[ab k,ab aS,af s,ae xa aW xc]] w1 λe w'=>e=.returned (.tuple #[af aV,ae (some ⟨d,po,none⟩) 4 c])/\am w1 w'))(ax:Hid (∀w1,am w w1->ao 181 #[ae m.2.1.1 m.2.2.length m.2.1.2,.func (Fn.func 182) #[] #[]] w1 (mf 11 (gH (M+1)) (jd (M+1)) (mL (M+1)) (DC (M+1)) au w1)))(az:Hid (∀w1,am w w1->ao 56 #[.agg #[ab y.1.1,ab y.1.2.1,af y.1.2.2,ae y.2.1.1 y.2.2.length y.2.1.2]] w1 λe w'=>∃a:Tm (n+1),e=.returned (.agg #[ab a.1.1,ab a.1.2.1,af a.1.2.2,ae a.2.1.1 a.2.2.length a.2.1.2])/\Hid (am w1 w'/\In w'.heap.size w' (n+1) a/\cD (λq=>w1.heap.size<=q) (n+1) a/\aB (n+1) a (n+1) y=true)))(aC:Hid (∀w1,am w w1->ao 56 #[.agg #[ab x.1.1,ab x.1.2.1,af x.1.2.2,ae x.2.1.1 x.2.2.length x.2.1.2]] w1 λe w'=>∃a:Tm (n+1),e=.returned (.agg #[ab a.1.1,ab a.1.2.1,af a.1.2.2,ae a.2.1.1 a.2.2.length a.2.1.2])/\Hid (am w1 w'/\In w'.heap.size w' (n+1) a/\cD (λq=>w1.heap.size<=q) (n+1) a/\aB (n+1) a (n+1) x=true)))(aD:Hid (∀w1,am w w1->ao 56 #[.agg #[ab t.1.1,ab t.1.2.1,af t.1.2.2,ae t.2.1.1 t.2.2.length t.2.1.2]] w1 λe w'=>∃a:Tm (n+1),e=.returned (.agg #[ab a.1.1,ab a.1.2.1,af a.1.2.2,ae a.2.1.1 a.2.2.length a.2.1.2])/\Hid (am w1 w'/\In w'.heap.size w' (n+1) a/\cD (λq=>w1.heap.size<=q) (n+1) a/\aB (n+1) a (n+1) t=true))):ao 144 #[.agg #[ab k,ab aS,af s,ae xa aW xc]] w (jL M o w):=by
 go_enter func144,ntmps144;go_wp2_with fail;refine(aF _ (by go_grown)).mono ?_;rintro e w1 ⟨rfl,aH⟩;obtain⟨bd,aP,aI,bq⟩:=eS aH;have f:=ap aI;have aG:=ap aP;clear aH bd aP aI aF;replace Q:=(aw f _ _ h).trans Q;replace R:=(aw f _ _ h).trans R;replace S:=(aw f _ _ h).trans S;replace T:=(aw f _ _ h).trans T;replace K:=(aw f _ _ h).trans K;replace L:=(aw f _ _ h).trans L;replace N:=(aw f _ _ h).trans N;replace O:=(aw f _ _ h).trans O;replace X:=(aw f _ _ h).trans X;replace ak:=(aw f _ _ h).trans ak;replace al:=(aw f _ _ h).trans al;replace an:=(aw f _ _ h).trans an;replace G:=(aw f _ _ h).trans G;replace H:=(aw f _ _ h).trans H;replace I:=(aw f _ _ h).trans I;replace J:=(aw f _ _ h).trans J;have bb:d<w1.heap.size:=by omega
 rw[a9]at X;go_wp2_with fail;refine(ax _ f).mono ?_;rintro e u ⟨l,j,r,av,rfl,aE⟩;have U:=ap aE.1;have z:Hid (am w u):=f.trans (U.mono f.size);have a0:=ap ((U.block (w.heap.size+1) (by omega)).trans aG);have bm:w1.heap.size<=u.heap.size:=U.size;have bc:d<u.heap.size:=by omega
 have B:Hid (∀w',am u w'->(ai w' d po (ab y.1.1)/\ai w' d (po+1) (ab y.1.2.1)/\ai w' d (po+2) (af y.1.2.2)/\ai w' d (po+3) (ae y.2.1.1 y.2.2.length y.2.1.2))/\(ai w' d (po+4) (ab x.1.1)/\ai w' d (po+5) (ab x.1.2.1)/\ai w' d (po+6) (af x.1.2.2)/\ai w' d (po+7) (ae x.2.1.1 x.2.2.length x.2.1.2))/\(ai w' d (po+12) (ab t.1.1)/\ai w' d (po+13) (ab t.1.2.1)/\ai w' d (po+14) (af t.1.2.2)/\ai w' d (po+15) (ae t.2.1.1 t.2.2.length t.2.1.2))):=λw' a3=>by
  have i:=λo=>(aw a3 d o bc).trans (aw U d o bb);exact⟨⟨(i _).trans Q,(i _).trans R,(i _).trans S,(i _).trans T⟩,⟨(i _).trans K,(i _).trans L,(i _).trans N,(i _).trans O⟩,(i _).trans G,(i _).trans H,(i _).trans I,(i _).trans J⟩
 obtain⟨W,ah⟩:∃W,l.length=W:=⟨_,rfl⟩;rw[ah];have aZ:=ap ah;clear ax aG Q R S T K L N O X ak al an G H I J ah;obtain⟨⟨Q,R,S,T⟩,⟨K,L,N,O⟩,G,H,I,J⟩:=B.out u (aA _ _);go_wp2_with fail
 go_region_held3 (λw'=>(w'.cell? ⟨d,po,none⟩=some (ab y.1.1)/\w'.cell? ⟨d,po+1,none⟩=some (ab y.1.2.1)/\w'.cell? ⟨d,po+2,none⟩=some (af y.1.2.2)/\w'.cell? ⟨d,po+3,none⟩=some (ae y.2.1.1 y.2.2.length y.2.1.2))/\(w'.cell? ⟨d,po+4,none⟩=some (ab x.1.1)/\w'.cell? ⟨d,po+5,none⟩=some (ab x.1.2.1)/\w'.cell? ⟨d,po+6,none⟩=some (af x.1.2.2)/\w'.cell? ⟨d,po+7,none⟩=some (ae x.2.1.1 x.2.2.length x.2.1.2))/\(w'.cell? ⟨d,po+12,none⟩=some (ab t.1.1)/\w'.cell? ⟨d,po+13,none⟩=some (ab t.1.2.1)/\w'.cell? ⟨d,po+14,none⟩=some (af t.1.2.2)/\w'.cell? ⟨d,po+15,none⟩=some (ae t.2.1.1 t.2.2.length t.2.1.2))) (first|with_reducible assumption|with_reducible exact B.out _ A.out|with_reducible exact B.out _ F.out|with_reducible exact B.out _ E.out|with_reducible exact aY.out _ (rR _ _ _ _ _ _ _ _ _ _ _ _ _ _ _)|exact B.out _ (aA _ _).drew)
  ((first
   | (go_at_call 56;refine(az _ z.drew).mono ?_;rintro e aT ⟨a,rfl,V⟩;have E:=ap (dc V.1);clear az)
   | (go_at_call 56;refine(aC _ (z.trans (E.mono z.size))).mono ?_;rintro e aU ⟨q,rfl,C⟩;have F:=ap (E.trans (C.1.mono E.size));clear aC)
   | (go_at_call 56;refine(aD _ (z.trans (F.mono z.size))).mono ?_;rintro e p ⟨g,rfl,D⟩;have A:=ap (F.trans (D.1.mono F.size));clear aD;have a1:=ap ((A.block (w.heap.size+1) (by omega)).trans a0);obtain⟨⟨d0,d1,d2,d3,d4,d5,d6,d7,d8,d9,d10,d11,d12⟩,f0,bp⟩:=uC a1;have aY:=ap (λa2 (a6:bU (w.heap.size+1) p a2)=>NW (y:=y) (x:=x) (t:=t) (show d<w.heap.size+1 by omega) a6 (B _ A)))))
 go_wp2_with fail;have aX:Hid (am w p):=z.trans (A.mono z.size);have bn:u.heap.size<=aT.heap.size:=E.size;have bo:u.heap.size<=aU.heap.size:=F.size;have aO:=D.1;have aN:=C.1.trans (D.1.mono C.1.size);have Y:=jq (M:=M) aj ((V.2.1.below aN).mono aN.size) (V.2.2.1.mono λq (aM:u.heap.size<=q)=>(show w.heap.size+1<q by omega)) V.2.2.2;have Z:=jq (M:=M) aj ((C.2.1.below aO).mono aO.size) (C.2.2.1.mono λq (aM:aT.heap.size<=q)=>(show w.heap.size+1<q by omega)) C.2.2.2;have aa:=jq (M:=M) aj D.2.1 (D.2.2.1.mono λq (aM:aU.heap.size<=q)=>(show w.heap.size+1<q by omega)) D.2.2.2;refine ay (v:=.tuple #[.agg #[ab a.1.1,ab a.1.2.1,af a.1.2.2,ae a.2.1.1 a.2.2.length a.2.1.2,ab q.1.1,ab q.1.2.1,af q.1.2.2,ae q.2.1.1 q.2.2.length q.2.1.2,ae j W r,ab g.1.1,ab g.1.2.1,af g.1.2.2,ae g.2.1.1 g.2.2.length g.2.1.2],.bool av]) (by simp[results,results144,go_sem,d0,d1,d2,d3,d4,d5,d6,d7,d8,d9,d10,d11,d12]) rfl ?_;have e:fy (M+1) ((bf (M+1) (n+1) a,bf (M+1) (n+1) q,bf (M+1) (n+1) g),(j,r),l)=[ab a.1.1,ab a.1.2.1,af a.1.2.2,ae a.2.1.1 a.2.2.length a.2.1.2,ab q.1.1,ab q.1.2.1,af q.1.2.2,ae q.2.1.1 q.2.2.length q.2.1.2,ae j W r,ab g.1.1,ab g.1.2.1,af g.1.2.2,ae g.2.1.1 g.2.2.length g.2.1.2]:=by
  show iQ (M+1) (bf (M+1) (n+1) a)++iQ (M+1) (bf (M+1) (n+1) q)++(ae j l.length r::iQ (M+1) (bf (M+1) (n+1) g))=_;rw[gS,gS,gS,aZ.out];rfl
 have aR:∀w',bU (w.heap.size+1) p w'->jL M o w (.returned (.tuple #[.agg (fy (M+1) ((bf (M+1) (n+1) a,bf (M+1) (n+1) q,bf (M+1) (n+1) g),(j,r),l)).toArray,.bool av])) w':=λw' aK=>by
  obtain⟨br,be,bg,bh,bi,bj⟩:=aE;have ad:=cU (f9 (M+1)) 11 (gH (M+1)) j;have a7:qz p.heap.size p 11 (gH (M+1)) (jd (M+1) p.heap.size p) j l:=ad.mono A.size (ad.below A bh);have ba:ue (mL (M+1) (λb=>w.heap.size+1<b)) (λb=>w.heap.size+1<b) j l:=ad.1 _ _ _ (λb (a4:w1.heap.size<=b)=>(show w.heap.size+1<b by omega)) bi;have a5:iE (M+1) p.heap.size p ((bf (M+1) (n+1) a,bf (M+1) (n+1) q,bf (M+1) (n+1) g),(j,r),l):=⟨⟨Y.1,Z.1,aa.1⟩,bg,a7⟩;have aJ:ku (M+1) (λb=>w.heap.size+1<b) ((bf (M+1) (n+1) a,bf (M+1) (n+1) q,bf (M+1) (n+1) g),(j,r),l):=⟨⟨Y.2.1,Z.2.1,aa.2.1⟩,ba⟩;refine⟨((bf (M+1) (n+1) a,bf (M+1) (n+1) q,bf (M+1) (n+1) g),(j,r),l),av,rfl,aK.below aX (by omega),?_,aK.stays (eP _) (P:=λb=>w.heap.size+1<b) (by omega) aJ a5,(eP _).1 _ _ _ (λb (a4:w.heap.size+1<b)=>(show w.heap.size<=b by omega)) aJ,λbs aQ=>?_⟩
  ·rw[be,aL.out];cases au<;>rfl
  ·rw[aL.out]at aQ;obtain⟨bk,a8,rfl⟩:=cG.1 aQ;exact⟨⟨Y.2.2,Z.2.2,aa.2.2⟩,bj bk a8⟩
 rw[e]at aR;exact aR _ (rR _ _ _ _ _ _ _ _ _ _ _ _ _ _ _)
theorem wF(M n:Nat)(ap:n<=M+1)(x:Tm n)(B:Nat)(w:ag)(K:In B w n x)(Y:aJ ⟨n,x⟩)(g:B<=w.heap.size):ao 144 #[dG n x] w (jL M (As M n x) w):=by
 cases n with
 | zero=>exact K.elim
 | succ n=>
 obtain⟨G,c,i,an,am,m⟩:=si n x B w K g;show ao 144 #[.agg #[ab x.1.1,ab x.1.2.1,af x.1.2.2,ae x.2.1.1 x.2.2.length x.2.1.2]] w (jL M (th M n (fA n x) (bZ n x)) w);have r:∀e∈bZ n x,aJ ⟨n,e⟩:=λe j=>eR Y j;generalize fA n x=b at*;generalize bZ n x=d at*;have F:tK b My=(b.toList==[111,110]):=nV b [111,110];have get:∀k,k<d.length->∃e,d[k]?=some e:=λk v=>⟨d[k],aN v⟩;by_cases f:(b.toList==[111,110])=true
 ·by_cases q:d.length=4
  ·obtain⟨e,j⟩:=get 0 (by omega);obtain⟨u,D⟩:=get 1 (by omega);obtain⟨a,y⟩:=get 2 (by omega);obtain⟨t,C⟩:=get 3 (by omega);have h:th M n b d=if cg ⟨n,a⟩=4 then (cZ (tg M (n-1)) (FC n a)).map λl=>((bf (M+1) n e,bf (M+1) n u,bf (M+1) n t),(none,0),l)else none:=by
    unfold th;rw[if_pos (by rw[F,f,q];rfl),j,D,y,C];rfl
   rw[q]at m;obtain⟨N,po,rfl⟩:=rT i (by omega);cases n with
   | zero=>exact(sK i j).elim
   | succ n=>
   obtain⟨⟨O,P,Q,R⟩,aa,aq⟩:=iN i j;obtain⟨⟨d0,d1,d2,d3⟩,ad,_⟩:=iN i D;obtain⟨⟨L,ah,ai,aj⟩,I,_⟩:=iN i y;obtain⟨⟨S,T,U,V⟩,Z,_⟩:=iN i C;by_cases o:a.1.1=4
   ·have A:th M (n+1) b d=(cZ (tg M n) a.2.2).map λl=>((bf (M+1) (n+1) e,bf (M+1) (n+1) u,bf (M+1) (n+1) t),(none,0),l):=by
      rw[h,if_pos (show cg ⟨n+1,a⟩=4 from o)];rfl
    have J:=r a (aL y);have X:a.2.2.length<=8:=by
     exact ni J o
    exact uq M n _ _ _ _ _ _ b N po c w e u a t (by omega) (cZ (tg M n) a.2.2) _ A f (by omega) (by simpa using O) (by simpa using P) (by simpa using Q) (by simpa using R) (by simpa using d0) (by simpa using d1) (by simpa using d2) (by simpa using d3) (by simpa using L) (by simpa using ah) (by simpa using ai) (by simpa using aj) (by simpa using S) (by simpa using T) (by simpa using U) (by simpa using V) o m
     (λak p=>Az M n a.2.2 a.2.2.length rfl X a.2.1.1 a.2.1.2 B ak ((show fZ B w n a.2.2 a.2.1.1 from I.2).below (p.mono g)) (aF g p.size) (λE s al W=>by
      have H:=p.trans (W.mono p.size);obtain⟨k,v⟩:=dp s;rcases I.2 with z|⟨_,_,_,_,z⟩
      ·rw[z]at s;cases s
      ·exact CC M n (by omega) E B al ((z k E v).2.below (H.mono g)) (bj n a E J s) (aF g H.size)))
     (mU aa (r e (aL j)) g) (mU ad (r u (aL D)) g) (mU Z (r t (aL C)) g)
   ·have A:th M (n+1) b d=none:=by rw[h,if_neg (show¬cg ⟨n+1,a⟩=4 from o)]
    exact uo M n _ _ _ _ _ _ b N po c w _ A f (by omega) a.1.1 (by simpa using L) (by simpa using o) m
  ·have h:th M n b d=none:=by simp[th,q]
   exact wG M n _ _ _ _ _ _ b G d.length c w _ h f (vS q) (by simp;omega) m
 replace f:=pe f;have h:th M n b d=none:=by simp[th,F,f]
 exact ur M n _ _ _ _ _ _ b G d.length c w _ h f m
abbrev qi(M:Nat)(o:Option (Bh (M+1)))(w:ag)(e:Ending)(w':ag):Prop:=rA (p7 (M+1)) (pY (M+1)) (kp (M+1)) (zv (M+1)) o w e w'
theorem yz{n:Nat}{x:Tm (n+1)}(b:aJ ⟨n+1,x⟩):(bZ n x).length<=8:=by
 unfold bZ;split
 ·rename_i a;have:=ni b a;split
  ·split
   ·rw[fw];omega
   ·simp
  ·simp
 ·simp
theorem K5{n:Nat}{a:Tm (n+1)}(d:aJ ⟨n+1,a⟩)(b:a.1.1=2):a.1.2.2.size<=2048:=by
 have:=d (bO n a) (by simp[aC,bO]);have c:ex a.1.2.2=true:=by
  simp only[cQ,bO,b]at this;simp at this;exact this.1.1
 simp only[ex,rk,aK,cw]at c;omega
theorem B4{n B:Nat}{w:ag}{q:List (Tm n)}{a:ar}(b:fZ B w n q a){y:Tm n}(c:y∈q):In B w n y:=by
 rcases b with b|⟨_,_,_,_,b⟩
 ·subst b;cases c
 ·obtain⟨e,d⟩:=dp c;exact(b e y d).2
theorem qQ{M:Nat}{o:Option (Bh (M+1))}{w w':ag}(b:o=none)(a:am w w'):qi M o w (.returned (.tuple #[.agg #[af .empty,ae none 0 0],.bool false])) w':=by
 subst b;exact⟨(.empty,(none,0),[]),false,rfl,a,rfl,⟨aM _,⟨av _,aM _⟩,aj rfl⟩,aj rfl,λd c=>by cases c⟩
theorem AC(M _n:Nat)(k i:Int)(s:aq)(xa:ar)(l xc:Nat)(j:aq)(a:ar)(len c:Nat)(w:ag)(o:Option (Bh (M+1)))(n:Hid (o=none))(r:(j.toList==[98,101,104])=false)(d:Hid (∀w1,am w w1->ao 104 #[.agg #[ab k,ab i,af s,ae xa l xc]] w1 λe w'=>e=.returned (.tuple #[af j,ae a len c])/\am w1 w')):ao 106 #[.agg #[ab k,ab i,af s,ae xa l xc]] w (qi M o w):=by
 go_enter func106,ntmps106;go_wp2_with fail;refine(d _ (by go_grown)).mono ?_;rintro e w1 ⟨rfl,f⟩;obtain⟨p,h,g,u⟩:=eS f;have m:=ap g;have b:=ap h;clear f p h g d;have d0:w1.cell? ⟨w.heap.size+1,0,none⟩=some (af ⟨#[]⟩):=ax b 0;have d1:w1.cell? ⟨w.heap.size+1,1,none⟩=some (ae none 0 0):=ax b 1;have f0:=λq=>dm b q;have t:w.heap.size+1<w1.heap.size:=(aI.1 b).1;go_wp2_with fail;exact ay (v:=.tuple #[.agg #[af .empty,ae none 0 0],.bool false]) (by simp[results,results106,go_sem,d0,d1];rfl) rfl (qQ n ((bU.set (bU.set (bU.refl _ _) _ _) _ _).below m (by omega)))
theorem CE(M _n:Nat)(k i:Int)(s:aq)(xa:ar)(l xc:Nat)(j:aq)(a:ar)(len c:Nat)(w:ag)(o:Option (Bh (M+1)))(n:Hid (o=none))(r:(j.toList==[98,101,104])=true)(t:(len:Int)<1)(d:Hid (∀w1,am w w1->ao 104 #[.agg #[ab k,ab i,af s,ae xa l xc]] w1 λe w'=>e=.returned (.tuple #[af j,ae a len c])/\am w1 w')):ao 106 #[.agg #[ab k,ab i,af s,ae xa l xc]] w (qi M o w):=by
 go_enter func106,ntmps106;go_wp2_with fail;refine(d _ (by go_grown)).mono ?_;rintro e w1 ⟨rfl,f⟩;obtain⟨p,h,g,x⟩:=eS f;have m:=ap g;have b:=ap h;clear f p h g d;have d0:w1.cell? ⟨w.heap.size+1,0,none⟩=some (af ⟨#[]⟩):=ax b 0;have d1:w1.cell? ⟨w.heap.size+1,1,none⟩=some (ae none 0 0):=ax b 1;have f0:=λq=>dm b q;have u:w.heap.size+1<w1.heap.size:=(aI.1 b).1;go_wp2_with fail;exact ay (v:=.tuple #[.agg #[af .empty,ae none 0 0],.bool false]) (by simp[results,results106,go_sem,d0,d1];rfl) rfl (qQ n ((bU.set (bU.set (bU.refl _ _) _ _) _ _).below m (by omega)))
theorem AA(M _n:Nat)(k m:Int)(s:aq)(xa:ar)(p xc:Nat)(n:aq)(b po len c:Nat)(w:ag)(o:Option (Bh (M+1)))(q:Hid (o=none))(x:(n.toList==[98,101,104])=true)(z:¬(len:Int)<1)(A:(0:Int)<(len:Int))(r:b<w.heap.size)(l:Int)(g:ai w b po (ab l))(y:(l !=2)=true)(f:Hid (∀w1,am w w1->ao 104 #[.agg #[ab k,ab m,af s,ae xa p xc]] w1 λe w'=>e=.returned (.tuple #[af n,ae (some ⟨b,po,none⟩) len c])/\am w1 w')):ao 106 #[.agg #[ab k,ab m,af s,ae xa p xc]] w (qi M o w):=by
 go_enter func106,ntmps106;go_wp2_with fail;refine(f _ (by go_grown)).mono ?_;rintro e w1 ⟨rfl,h⟩;obtain⟨t,j,i,D⟩:=eS h;have d:=ap i;have a:=ap j;clear h t j i f;replace g:=(aw d _ _ r).trans g;have B:b<w1.heap.size:=by omega
 have d0:w1.cell? ⟨w.heap.size+1,0,none⟩=some (af ⟨#[]⟩):=ax a 0;have d1:w1.cell? ⟨w.heap.size+1,1,none⟩=some (ae none 0 0):=ax a 1;have f0:=λu=>dm a u;have C:w.heap.size+1<w1.heap.size:=(aI.1 a).1;go_wp2_with fail;exact ay (v:=.tuple #[.agg #[af .empty,ae none 0 0],.bool false]) (by simp[results,results106,go_sem,d0,d1];rfl) rfl (qQ q ((bU.set (bU.set (bU.refl _ _) _ _) _ _).below d (by omega)))
theorem CF(M _n:Nat)(k Q:Int)(s:aq)(xa:ar)(S xc:Nat)(R:aq)(d po:Nat)(w:ag)(y2:aq)(ad:y2.size<=2048)(t:Option (List (Cl (M+1))))(o:Option (Bh (M+1)))(J:Hid (o=t.map λl=>(y2,(none,0),l)))(aA:(R.toList==[98,101,104])=true)(K:d<w.heap.size)(m:ai w d po (ab 2))(n:ai w d (po+2) (af y2))(C:Hid (∀w1,am w w1->ao 104 #[.agg #[ab k,ab Q,af s,ae xa S xc]] w1 λe w'=>e=.returned (.tuple #[af R,ae (some ⟨d,po,none⟩) 1 1])/\am w1 w'))(y:Hid (∀w1,am w w1->ao 143 #[ae (some ⟨d,po,none⟩) 0 0,.func (Fn.func 144) #[] #[]] w1 (mf 13 (fy (M+1)) (iE (M+1)) (ku (M+1)) (Dv (M+1)) t w1))):ao 106 #[.agg #[ab k,ab Q,af s,ae xa S xc]] w (qi M o w):=by
 go_enter func106,ntmps106;go_wp2_with fail;refine(C _ (by go_grown)).mono ?_;rintro e w1 ⟨rfl,F⟩;obtain⟨aa,N,G,aE⟩:=eS F;have f:=ap G;have D:=ap N;clear F aa N G C;replace m:=(aw f _ _ K).trans m;replace n:=(aw f _ _ K).trans n;have L:d<w1.heap.size:=by omega
 go_wp2_with fail;refine(y _ f).mono ?_;rintro e x ⟨l,c,i,u,rfl,B⟩;have g:=ap B.1;have z:Hid (am w x):=f.trans (g.mono f.size);have E:=ap ((g.block (w.heap.size+1) (by omega)).trans D);have aB:w1.heap.size<=x.heap.size:=g.size;have aC:d<x.heap.size:=by omega
 replace m:=(aw g _ _ L).trans m;replace n:=(aw g _ _ L).trans n;obtain⟨j,r⟩:∃j,l.length=j:=⟨_,rfl⟩;rw[r];have U:=ap r;clear y D r;go_wp2_with fail;refine(ey _ _ ad).mono ?_;rintro e a ⟨rfl,p⟩;have A:=ap p;have T:Hid (am w a):=z.trans (p.mono z.size);have h:=ap ((p.block (w.heap.size+1) (by omega)).trans E);have d0:a.cell? ⟨w.heap.size+1,0,none⟩=some (af ⟨#[]⟩):=ax h 0;have d1:a.cell? ⟨w.heap.size+1,1,none⟩=some (ae none 0 0):=ax h 1;have f0:=λah=>dm h ah;have aD:w.heap.size+1<a.heap.size:=(aI.1 h).1;clear p E h;go_wp2_with fail;refine ay (v:=.tuple #[.agg #[af y2,ae c j i],.bool u]) (by simp[results,results106,go_sem,d0,d1]) rfl ?_;have av:∀w',bU (w.heap.size+1) a w'->qi M o w (.returned (.tuple #[.agg #[af y2,ae c j i],.bool u])) w':=λw' I=>by
  obtain⟨aF,aj,ak,al,an,au⟩:=B;have q:=cU (eP (M+1)) 13 (fy (M+1)) c;have X:qz a.heap.size a 13 (fy (M+1)) (iE (M+1) a.heap.size a) c l:=q.mono A.size (q.below A al);have Z:ue (ku (M+1) (λb=>w.heap.size+1<b)) (λb=>w.heap.size+1<b) c l:=q.1 _ _ _ (λb (V:w1.heap.size<=b)=>(show w.heap.size+1<b by omega)) an;have W:pY (M+1) a.heap.size a (y2,(c,i),l):=⟨(show y2.size<=maxLen by unfold maxLen;omega),ak,X⟩;have H:kp (M+1) (λb=>w.heap.size+1<b) (y2,(c,i),l):=Z;refine⟨(y2,(c,i),l),u,by rw[<-U.out];rfl,I.below T (by omega),?_,I.stays (eD _) (P:=λb=>w.heap.size+1<b) (by omega) H W,(eD _).1 _ _ _ (λb (V:w.heap.size+1<b)=>(show w.heap.size<=b by omega)) H,λaG O=>?_⟩
  ·rw[aj,J.out];cases t<;>rfl
  ·rw[J.out]at O;obtain⟨az,Y,rfl⟩:=cG.1 O;exact⟨rfl,au az Y⟩
 exact av _ (bU.set (bU.set (bU.refl _ _) _ _) _ _)
theorem AB(M _n:Nat)(k T:Int)(s:aq)(xa:ar)(V xc:Nat)(U:aq)(f po L c:Nat)(w:ag)(y2:aq)(aj:y2.size<=2048)(u:Option (List (Cl (M+1))))(o:Option (Bh (M+1)))(N:Hid (o=u.map λl=>(y2,(none,0),l)))(aC:(U.toList==[98,101,104])=true)(O:f<w.heap.size)(_hl:¬(L:Int)<1)(K:(0:Int)<(L:Int))(aF:(1:Int)<=(L:Int))(_hlc:(L:Int)<=(c:Int))(aE:¬c=1)(_hcm:(c:Int)<=9223372036854775807)(n:ai w f po (ab 2))(p:ai w f (po+2) (af y2))(D:Hid (∀w1,am w w1->ao 104 #[.agg #[ab k,ab T,af s,ae xa V xc]] w1 λe w'=>e=.returned (.tuple #[af U,ae (some ⟨f,po,none⟩) L c])/\am w1 w'))(z:Hid (∀w1,am w w1->ao 143 #[ae (some ⟨f,po+4,none⟩) (L-1) (c-1),.func (Fn.func 144) #[] #[]] w1 (mf 13 (fy (M+1)) (iE (M+1)) (ku (M+1)) (Dv (M+1)) u w1))):ao 106 #[.agg #[ab k,ab T,af s,ae xa V xc]] w (qi M o w):=by
 go_enter func106,ntmps106;go_wp2_with fail;refine(D _ (by go_grown)).mono ?_;rintro e w1 ⟨rfl,G⟩;obtain⟨ah,R,H,aJ⟩:=eS G;have g:=ap H;have E:=ap R;clear G ah R H D;replace n:=(aw g _ _ O).trans n;replace p:=(aw g _ _ O).trans p;have Q:f<w1.heap.size:=by omega
 go_wp2_with fail;refine(z _ g).mono ?_;rintro e y ⟨l,d,j,x,rfl,C⟩;have h:=ap C.1;have A:Hid (am w y):=g.trans (h.mono g.size);have F:=ap ((h.block (w.heap.size+1) (by omega)).trans E);have aD:w1.heap.size<=y.heap.size:=h.size;have aG:f<y.heap.size:=by omega
 replace n:=(aw h _ _ Q).trans n;replace p:=(aw h _ _ Q).trans p;obtain⟨m,t⟩:∃m,l.length=m:=⟨_,rfl⟩;rw[t];have X:=ap t;clear z E t;go_wp2_with fail;refine(ey _ _ aj).mono ?_;rintro e a ⟨rfl,q⟩;have B:=ap q;have W:Hid (am w a):=A.trans (q.mono A.size);have i:=ap ((q.block (w.heap.size+1) (by omega)).trans F);have d0:a.cell? ⟨w.heap.size+1,0,none⟩=some (af ⟨#[]⟩):=ax i 0;have d1:a.cell? ⟨w.heap.size+1,1,none⟩=some (ae none 0 0):=ax i 1;have f0:=λak=>dm i ak;have aH:w.heap.size+1<a.heap.size:=(aI.1 i).1;clear q F i;go_wp2_with fail;refine ay (v:=.tuple #[.agg #[af y2,ae d m j],.bool x]) (by simp[results,results106,go_sem,d0,d1]) rfl ?_;have aA:∀w',bU (w.heap.size+1) a w'->qi M o w (.returned (.tuple #[.agg #[af y2,ae d m j],.bool x])) w':=λw' J=>by
  obtain⟨aK,al,an,au,av,az⟩:=C;have r:=cU (eP (M+1)) 13 (fy (M+1)) d;have aa:qz a.heap.size a 13 (fy (M+1)) (iE (M+1) a.heap.size a) d l:=r.mono B.size (r.below B au);have ad:ue (ku (M+1) (λb=>w.heap.size+1<b)) (λb=>w.heap.size+1<b) d l:=r.1 _ _ _ (λb (Y:w1.heap.size<=b)=>(show w.heap.size+1<b by omega)) av;have Z:pY (M+1) a.heap.size a (y2,(d,j),l):=⟨(show y2.size<=maxLen by unfold maxLen;omega),an,aa⟩;have I:kp (M+1) (λb=>w.heap.size+1<b) (y2,(d,j),l):=ad;refine⟨(y2,(d,j),l),x,by rw[<-X.out];rfl,J.below W (by omega),?_,J.stays (eD _) (P:=λb=>w.heap.size+1<b) (by omega) I Z,(eD _).1 _ _ _ (λb (Y:w.heap.size+1<b)=>(show w.heap.size<=b by omega)) I,λaL S=>?_⟩
  ·rw[al,N.out];cases u<;>rfl
  ·rw[N.out]at S;obtain⟨aB,K,rfl⟩:=cG.1 S;exact⟨rfl,az aB K⟩
 exact aA _ (bU.set (bU.set (bU.refl _ _) _ _) _ _)
theorem CD(M n:Nat)(Z:n<=M+1)(x:Tm n)(B:Nat)(w:ag)(K:In B w n x)(H:aJ ⟨n,x⟩)(p:B<=w.heap.size):ao 106 #[dG n x] w (qi M (Ar M n x) w):=by
 cases n with
 | zero=>exact K.elim
 | succ n=>
 obtain⟨D,c,h,S,Y,k⟩:=si n x B w K p;show ao 106 #[.agg #[ab x.1.1,ab x.1.2.1,af x.1.2.2,ae x.2.1.1 x.2.2.length x.2.1.2]] w (qi M (um M n (fA n x) (bZ n x)) w);have I:∀d∈bZ n x,aJ ⟨n,d⟩:=λd U=>eR H U;have R:(bZ n x).length<=8:=yz H;generalize fA n x=e at*;generalize bZ n x=a at*;have A:tK e uz=(e.toList==[98,101,104]):=nV e [98,101,104];by_cases f:(e.toList==[98,101,104])=true
 ·cases a with
  | nil=>
   have g:um M n e []=none:=by simp[um]
   exact CE M n _ _ _ _ _ _ e D 0 c w _ g f (by omega) k
  | cons d a=>
   obtain⟨q,po,rfl⟩:=rT h (by simp);cases n with
   | zero=>exact(sK h (show (d::a)[0]?=some d from rfl)).elim
   | succ n=>
   obtain⟨⟨m,W,E,X⟩,ad,aa⟩:=iN h (show (d::a)[0]?=some d from rfl);by_cases i:d.1.1=2
   ·have g:um M (n+1) e (d::a)=(cZ (As M (n+1)) a).map λl=>(d.1.2.2,(none,0),l):=by
      simp[um,A,f,cg,i,ym,gK,bO]
    have J:d.1.2.2.size<=2048:=K5 (I d (by simp)) i;have G:fZ B w (n+1) a (some ⟨q,po+4,none⟩):=by
     rcases h with h|⟨b,o,v,t,h⟩
     ·cases h
     ·injection v with v;injection v with O P;subst O P
      exact ak ⟨q,po+4,rfl,t,λz j y=>by
       have:=h (z+1) j (by simpa using y);rw[show po+4+z*4=po+(z+1)*4 by omega]
       exact this⟩
    have C:∀(j:ar)(u:Nat),fZ B w (n+1) a j->∀r,am w r->ao 143 #[ae j a.length u,.func (Fn.func 144) #[] #[]] r (mf 13 (fy (M+1)) (iE (M+1)) (ku (M+1)) (Dv (M+1)) (cZ (As M (n+1)) a) r):=λj u y r s=>
     ut M (n+1) a a.length rfl (by simp at R;omega) j u B r (y.below (s.mono p)) (aF p s.size) (λN L V Q=>by
      have t:=s.trans (Q.mono s.size)
      exact wF M (n+1) (by omega) N B V ((B4 G L).below (t.mono p)) (I N (by simp[L])) (aF p t.size))
    by_cases F:c=1
    ·have T:a=[]:=bL (by simp at S;omega);subst T F;exact CF M (n+1) _ _ _ _ _ _ e q po w d.1.2.2 J _ _ g f (by omega) (by rw[i]at m;simpa using m) (by simpa using E) k (C _ 0 (aj rfl))
    ·exact AB M (n+1) _ _ _ _ _ _ e q po (d::a).length c w d.1.2.2 J _ _ g f (by omega) (by simp only[bA];omega) (by simp only[bA];omega) (by simp only[bA];omega) (by omega) F (by omega) (by rw[i]at m;simpa using m) (by simpa using E) k (C _ (c-1) G)
   ·have g:um M (n+1) e (d::a)=none:=by simp[um,cg,i]
    exact AA M (n+1) _ _ _ _ _ _ e q po (d::a).length c w _ g f (by simp only[bA];omega) (by simp only[bA];omega) (by omega) d.1.1 (by simpa using m) (by simpa using i) k
 replace f:=pe f;have g:um M n e a=none:=by simp[um,A,f]
 exact AC M n _ _ _ _ _ _ e D a.length c w _ g f k
abbrev uW(M:Nat)(o:Option (List (Bh (M+1))))(w:ag)(e:Ending)(w':ag):Prop:=mf 2 (p7 (M+1)) (pY (M+1)) (kp (M+1)) (zv (M+1)) o w e w'
theorem Cz{M:Nat}{o:Option (List (Bh (M+1)))}{w w':ag}(b:o=none)(a:am w w'):uW M o w (.returned (.tuple #[ae none 0 0,.bool false])) w':=by
 subst b;exact⟨[],none,0,false,rfl,a,rfl,⟨av _,aM _⟩,aj rfl,aj rfl,λd c=>by cases c⟩
theorem xz(M _n:Nat)(k r:Int)(s:aq)(xa:ar)(u xc:Nat)(t:aq)(a:ar)(len c:Nat)(w:ag)(o:Option (List (Bh (M+1))))(b:Bool)(H:(t.toList==[99,111,100,101])=b)(p:Hid (b=false->o=none))(m:Hid (∀w1,am w w1->ao 104 #[.agg #[ab k,ab r,af s,ae xa u xc]] w1 λe w'=>e=.returned (.tuple #[af t,ae a len c])/\am w1 w'))(j:Hid (b=true->∀w1,am w w1->ao 105 #[ae a len c,.func (Fn.func 106) #[] #[]] w1 (uW M o w1))):ao 67 #[.agg #[ab k,ab r,af s,ae xa u xc]] w (uW M o w):=by
 cases b
 ·have HB:Hid (o=none):=p rfl;go_enter func67,ntmps67;go_wp2_with fail;refine(m _ (by go_grown)).mono ?_;rintro e w1 ⟨rfl,f⟩;have d:Hid (am w w1):=aX.trans (f.mono (by simp));clear f;go_wp2_with fail;exact ay (v:=.tuple #[ae none 0 0,.bool false]) (by simp[results,results67,go_sem]) rfl (Cz HB d)
 ·have x:=ap (j rfl);clear j p;go_enter func67,ntmps67;go_wp2_with fail;refine(m _ (by go_grown)).mono ?_;rintro e w1 ⟨rfl,f⟩;have d:Hid (am w w1):=aX.trans (f.mono (by simp));clear f;go_wp2_with fail;refine(x _ d).mono ?_;rintro e I ⟨l,h,n,q,rfl,y⟩;obtain⟨g,i⟩:∃g,l.length=g:=⟨_,rfl⟩;rw[i];have z:=ap i;clear i;go_wp2_with fail;refine ay (v:=.tuple #[ae h g n,.bool q]) (by simp[results,results67,go_sem]) rfl ?_;obtain⟨B,C,D,E,F,G⟩:=y;exact⟨l,h,n,q,by rw[z.out],d.trans (B.mono d.size),C,D,E,(cU (eD _) 2 (p7 (M+1)) h).1 _ _ _ (λb A=>aF d.size A) F,G⟩
theorem AD(M n:Nat)(A:n<=M+1)(x:Tm n)(B:Nat)(w:ag)(j:In B w n x)(i:aJ ⟨n,x⟩)(a:B<=w.heap.size):ao 67 #[dG n x] w (uW M (Cx M n x) w):=by
 cases n with
 | zero=>exact j.elim
 | succ n=>
 obtain⟨f,c,h,z,y,o⟩:=si n x B w j a;have s:∀l∈bZ n x,aJ ⟨n,l⟩:=λl t=>eR i t;have r:(bZ n x).length<=8:=yz i;have e:tK (fA n x) ov=((fA n x).toList==[99,111,100,101]):=nV _ [99,111,100,101];refine xz M n _ _ _ _ _ _ (fA n x) f (bZ n x).length c w (Cx M (n+1) x) _ rfl (λd=>?_) o (λd u b=>?_)
 ·simp only[Cx,e,d];rfl
 ·have p:Cx M (n+1) x=cZ (Ar M n) (bZ n x):=by simp only[Cx,e,d];rfl
  rw[p]
  exact qR M n (bZ n x) (bZ n x).length rfl r f c B u (h.below (b.mono a)) (aF a b.size) (λm k v q=>by
   have g:=b.trans (q.mono b.size)
   exact CD M n (by omega) m B v ((B4 h k).below (g.mono a)) (s m k) (aF a g.size))
theorem BD{s:aq}(b:s.toList.isEmpty=true):s=.empty:=by
 apply vi;have a:ByteArray.empty.toList=[]:=by rw[cI];rfl
 rw[a];simpa using b
theorem yF{n:Nat}{x:Tm (n+1)}(f:aJ ⟨n+1,x⟩)(c:x.1.1=4):x.1=(4,0,.empty):=by
 have a:=f (bO n x) (by simp[aC,bO]);unfold cQ at a;have b:(bO n x).1.1=4:=c;rw[if_neg (by rw[b];omega),if_neg (by rw[b];omega),if_neg (by rw[b];omega),if_pos b]at a;simp only[aK,cv]at a;have d:x.1.2.2=.empty:=BD a.1.1.1;have e:x.1.2.1=0:=a.1.1.2;exact fO c (fO e d)
theorem qS{n:Nat}{x:Tm (n+1)}(g:aJ ⟨n+1,x⟩)(d:x.1.1=2):x.1=(2,0,x.1.2.2)/\x.2.2=[]/\ex x.1.2.2=true:=by
 have b:=g (bO n x) (by simp[aC,bO]);unfold cQ at b;have c:(bO n x).1.1=2:=d;rw[if_neg (by rw[c];omega),if_pos c]at b;simp only[aK,iT,cv]at b;obtain⟨⟨f,e⟩,a⟩:=b;refine⟨fO d (fO e rfl),?_,f⟩;rcases a with a|a
 ·rw[c]at a;omega
 ·have h:¬(0:Int)<(x.2.2.length:Int):=by simpa [bO]using a
  exact bL (by omega)
theorem yG{n:Nat}{x:Tm (n+1)}(g:aJ ⟨n+1,x⟩)(d:x.1.1=5):x.1=(5,x.1.2.1,.empty)/\x.2.2=[]/\0<=x.1.2.1/\x.1.2.1<=3:=by
 have c:=g (bO n x) (by simp[aC,bO]);unfold cQ at c;have a:(bO n x).1.1=5:=d;rw[if_neg (by rw[a];omega),if_neg (by rw[a];omega),if_neg (by rw[a];omega),if_neg (by rw[a];omega),if_pos a]at c;simp only[aK,iT,cv,rk,cw]at c;obtain⟨⟨f,e⟩,b⟩:=c;refine⟨fO d (fO rfl (BD f)),?_,e⟩;rcases b with b|b
 ·rw[a]at b;omega
 ·have h:¬(0:Int)<(x.2.2.length:Int):=by simpa [bO]using b
  exact bL (by omega)
theorem sP{n:Nat}{x:Tm (n+1)}(d:aJ ⟨n+1,x⟩)(b:x.1.1=2)(N:Nat):aB (N+1) (bw x.1.2.2 N) (n+1) x=true:=by
 obtain⟨a,c,_⟩:=qS d b;refine dt a.symm ?_;rw[c];rfl
theorem Me{n:Nat}{x:Tm (n+1)}(d:aJ ⟨n+1,x⟩)(c:x.1.1=5)(N:Nat):aB (N+1) (b8 5 x.1.2.1 N) (n+1) x=true:=by
 obtain⟨a,b,_⟩:=yG d c;refine dt a.symm ?_;rw[b];rfl
theorem ik{n:Nat}{x:Tm (n+1)}(j:aJ ⟨n+1,x⟩){f:aq}(o:tK (fA n x) f=true)(b:f.toList≠[]):x.1=(4,0,.empty)/\∃i,x.2.2=i::bZ n x/\∀N,aB (N+1) (bw f N) n i=true:=by
 have g:ByteArray.empty.toList=[]:=by rw[cI];rfl
 have a:fA n x=f:=vi o;unfold fA at a;by_cases e:x.1.1=4
 ·rw[if_pos e]at a;refine⟨yF j e,?_⟩;obtain⟨⟨k,r,q⟩,⟨p,c⟩,l⟩:=x;simp only at e a;subst e;cases l with
  | nil=>
   simp at a;rw[<-a,g]at b;exact(b rfl).elim
  | cons d l=>
   simp only[dh]at a;cases n with
   | zero=>
    simp[cg]at a;rw[<-a,g]at b;exact(b rfl).elim
   | succ n=>
    by_cases h:d.1.1=2
    ·refine⟨d,by simp[bZ,cg,h],λN=>?_⟩;have m:f=d.1.2.2:=by
      rw[if_pos (show cg ⟨n+1,d⟩=2 from h)]at a;exact a.symm
     rw[m];exact sP (bj (n+1) _ d j (by simp)) h N
    ·rw[if_neg (show¬cg ⟨n+1,d⟩=2 from h)]at a;rw[<-a,g]at b;exact(b rfl).elim
 ·rw[if_neg e]at a;rw[<-a,g]at b;exact(b rfl).elim
theorem ol(l:List UInt8)(a:l≠[]):(⟨l.toArray⟩:aq).toList≠[]:=by rw[kL];exact a
theorem ng{M n:Nat}(a:n<=M+1){y:Tm n}(b:aJ ⟨n,y⟩):aB (M+1) (bf (M+1) n y) n y=true:=mY (M+1) n a y (fT n y b)
theorem KW{b:Type}{l:List b}{a:b}(c:l.length=1)(d:l[0]?=some a):l=[a]:=by
 match l,c with
 | [x],_=>simpa using d
theorem KX{e:Type}{l:List e}{a b:e}(f:l.length=2)(c:l[0]?=some a)(d:l[1]?=some b):l=[a,b]:=by
 match l,f with
 | [x,y],_=>
  simp at c d;rw[c,d]
theorem El{g:Type}{l:List g}{a b c:g}(h:l.length=3)(d:l[0]?=some a)(e:l[1]?=some b)(f:l[2]?=some c):l=[a,b,c]:=by
 match l,h with
 | [x,y,z],_=>
  simp at d e f;rw[d,e,f]
theorem Ia{i:Type}{l:List i}{a b c d:i}(j:l.length=4)(e:l[0]?=some a)(f:l[1]?=some b)(g:l[2]?=some c)(h:l[3]?=some d):l=[a,b,c,d]:=by
 match l,j with
 | [x,y,z,t],_=>
  simp at e f g h;rw[e,f,g,h]
theorem Lq(M:Nat):(n:Nat)->n<=M+1->(x:Tm n)->aJ ⟨n,x⟩->(a:Ac (M+1))->tg M n x=some a->aB (M+2) (cH M a) n x=true/\oB (M+1) a=true
 | 0,_,_,hr,_,_=>(dA hr).elim
 | n+1,hn,x,hr,a,h=>by
  have e:∀y∈bZ n x,aJ ⟨n,y⟩:=λy E=>eR hr E;have w:fp (M+1) (zT M)=true:=by
   have t:ByteArray.empty.toList=[]:=by rw[cI];rfl
   simp[fp,gK,bO,zT,t]
  have u:xx .empty 0=true:=by
   have t:ByteArray.empty.toList=[]:=by rw[cI];rfl
   simp[xx,t]
  have get:∀(d:List (Tm n))(s:Nat),s<d.length->∃y,d[s]?=some y/\y∈d:=λd s z=>⟨d[s],aN z,iv z⟩;simp only[tg,ki]at h;split at h
  ·rename_i b;simp only[aK,cw]at b;obtain⟨k,j,l,m⟩:=ik hr b.1 (ol [115,101,110,100] (by simp));obtain⟨c,f,p⟩:=get _ 0 (by rw[b.2];omega);obtain⟨d,q,v⟩:=get _ 1 (by rw[b.2];omega);rw[f,q]at h;have i:a=(1,(bf (M+1) n c,bf (M+1) n d),(.empty,0)):=by simpa using h.symm
   have o:bZ n x=[c,d]:=KX b.2 f q;subst i;refine⟨dt k.symm ?_,u⟩;rw[l,o];show aG _ [bw nt M,bf (M+1) n c,bf (M+1) n d] [j,c,d]=true;simp only[aG,m M,ng (M:=M) (by omega) (e c p),ng (M:=M) (by omega) (e d v),iS]
  split at h
  ·rename_i b;simp only[aK,cw]at b;obtain⟨k,j,l,m⟩:=ik hr b.1 (ol [115,112,97,119,110] (by simp));obtain⟨c,f,p⟩:=get _ 0 (by rw[b.2];omega);obtain⟨d,q,v⟩:=get _ 1 (by rw[b.2];omega);obtain⟨g,B,A⟩:=get _ 2 (by rw[b.2];omega);rw[f,q,B]at h;simp only[dU,Au]at h;split at h
   ·rename_i r;have i:a=(2,(zT M,bf (M+1) n d),(ym n c,p9 n g)):=by simpa using h.symm
    have o:bZ n x=[c,d,g]:=El b.2 f q B;subst i;cases n with
    | zero=>exact(dA (e c p)).elim
    | succ n=>
    have D:=yG (e g A) r.2;have C:=qS (e c p) r.1;refine⟨dt k.symm ?_,?_⟩
    ·rw[l,o];show aG _ [bw jy M,bw c.1.2.2 M,bf (M+1) (n+1) d,b8 5 g.1.2.1 M] [j,c,d,g]=true;simp only[aG,m M,ng (M:=M) (by omega) (e d v),sP (e c p) r.1 M,Me (e g A) r.2 M,iS]
    ·show (fp (M+1) (zT M) && ex c.1.2.2 && decide (0<=g.1.2.1) && decide (g.1.2.1<4))=true;rw[w,C.2.2,jb D.2.2.1,jb (by omega)];rfl
   ·cases h
  split at h
  ·rename_i b;simp only[aK,cw]at b;obtain⟨k,j,l,m⟩:=ik hr b.1 (ol [108,105,110,107] (by simp));obtain⟨c,f,p⟩:=get _ 0 (by rw[b.2];omega);rw[f]at h;have i:a=(3,(bf (M+1) n c,zT M),(.empty,0)):=by simpa using h.symm
   have o:bZ n x=[c]:=KW b.2 f;subst i;refine⟨dt k.symm ?_,?_⟩
   ·rw[l,o];show aG _ [bw ns M,bf (M+1) n c] [j,c]=true;simp only[aG,m M,ng (M:=M) (by omega) (e c p),iS]
   ·show (fp (M+1) (zT M) && xx .empty 0)=true;rw[w,u];rfl
  split at h
  ·rename_i b;simp only[aK,cw]at b;obtain⟨k,j,l,m⟩:=ik hr b.1 (ol [115,116,111,112] (by simp));have i:a=(4,(zT M,zT M),(.empty,0)):=by simpa using h.symm
   have o:bZ n x=[]:=bL b.2;subst i;refine⟨dt k.symm ?_,?_⟩
   ·rw[l,o];show aG _ [bw mC M] [j]=true;simp only[aG,m M,iS]
   ·show (fp (M+1) (zT M) && fp (M+1) (zT M) && xx .empty 0)=true;rw[w,u];rfl
  ·cases h
theorem qj{b:Type}{f g:b->Bool}:{l:List b}->(∀x∈l,f x=g x)->l.all f=l.all g
 | [],_=>rfl
 | a::l,h=>by
  simp only[jE,h a (by simp),qj (l:=l) λx c=>h x (by simp[c])]
theorem o8{d:Type}{n N:Nat}{f:Tm n->Option d}{g:d->Tm N}{B:d->Bool}(e:∀x a,aJ ⟨n,x⟩->f x=some a->aB N (g a) n x=true/\B a=true):(p:List (Tm n))->(∀y∈p,aJ ⟨n,y⟩)->(l:List d)->cZ f p=some l->aG (λa b=>aB N a n b) (l.map g) p=true/\l.all B=true/\l.length=p.length
 | [],_,l,c=>by
  simp[cZ]at c;subst c;exact⟨rfl,rfl,rfl⟩
 | y::p,hr,l,c=>by
  simp only[cZ]at c;obtain⟨a,k,c⟩:=bI.1 c;obtain⟨r,m,rfl⟩:=cG.1 c;obtain⟨h,i,j⟩:=o8 e p (λt o=>hr t (by simp[o])) r m;obtain⟨q,s⟩:=e y a (hr y (by simp)) k;refine⟨?_,by simp[s,i],by simp[j]⟩;simp only[aV,aG,q,h,iS]
theorem qK{N M n:Nat}(c:n<=M+1)(b:M+1<=N){y:Tm n}(d:aJ ⟨n,y⟩):aB N (bf N (M+1) (bf (M+1) n y)) n y=true:=by
 have a:=ng c d;exact bS _ _ _ _ _ _ (mY N (M+1) b _ (yK a)) a
theorem Ls(M:Nat):(n:Nat)->n<=M+1->(x:Tm n)->aJ ⟨n,x⟩->(c:Cl (M+1))->As M n x=some c->aB (M+4) (dZ M c) n x=true/\uf (M+1) c=true
 | 0,_,_,hr,_,_=>(dA hr).elim
 | n+1,hn,x,hr,c,h=>by
  have d:∀y∈bZ n x,aJ ⟨n,y⟩:=λy e=>eR hr e;have get:∀(q:List (Tm n))(i:Nat),i<q.length->∃y,q[i]?=some y/\y∈q:=λq i j=>⟨q[i],aN j,iv j⟩;simp only[As,th]at h;split at h
  ·rename_i b;simp only[aK,cw]at b;obtain⟨z,w,A,C⟩:=ik hr b.1 (ol [111,110] (by simp));obtain⟨p,k,m⟩:=get _ 0 (by rw[b.2];omega);obtain⟨q,o,I⟩:=get _ 1 (by rw[b.2];omega);obtain⟨r,u,f⟩:=get _ 2 (by rw[b.2];omega);obtain⟨t,v,J⟩:=get _ 3 (by rw[b.2];omega);rw[k,o,u,v]at h;simp only[dU]at h;split at h
   ·rename_i F;obtain⟨l,G,rfl⟩:=cG.1 h;have H:bZ n x=[p,q,r,t]:=Ia b.2 k o u v;cases n with
    | zero=>exact(dA (d p m)).elim
    | succ n=>
    have s:r.1.1=4:=F;obtain⟨K,L,P⟩:=o8 (g:=cH M) (B:=oB (M+1)) (λy a e E=>Lq M n (by omega) y e a E) r.2.2 (λy e=>bj n r y (d r f) e) l G;have O:=ni (d r f) s;refine⟨dt z.symm ?_,?_⟩
    ·rw[A,H];show aG _ [bw My (M+2),bf (M+3) (M+1) (bf (M+1) (n+1) p),bf (M+3) (M+1) (bf (M+1) (n+1) q),dx (M+2) (l.map (cH M)),bf (M+3) (M+1) (bf (M+1) (n+1) t)] [w,p,q,r,t]=true;have D:aB (M+3) (dx (M+2) (l.map (cH M))) (n+1) r=true:=dt (yF (d r f) s).symm K;simp only[aG,C (M+2),qK (N:=M+3) (M:=M) (by omega) (by omega) (d p m),qK (N:=M+3) (M:=M) (by omega) (by omega) (d q I),qK (N:=M+3) (M:=M) (by omega) (by omega) (d t J),D,iS]
    ·show (decide ((l.length:Int)<=8) && l.all (oB (M+1)))=true;rw[L,jb (by omega)];rfl
   ·cases h
  ·cases h
theorem Lr(M:Nat):(n:Nat)->n<=M+1->(x:Tm n)->aJ ⟨n,x⟩->(b:Bh (M+1))->Ar M n x=some b->aB (M+5) (eu M b) n x=true/\(ex b.1 && decide ((b.2.2.length:Int)<=6) && b.2.2.all (uf (M+1)))=true
 | 0,_,_,hr,_,_=>(dA hr).elim
 | n+1,hn,x,hr,b,a=>by
  have e:∀y∈bZ n x,aJ ⟨n,y⟩:=λy d=>eR hr d;simp only[Ar,um]at a;split at a
  ·rename_i u;obtain⟨h,r,i,s⟩:=ik hr u (ol [98,101,104] (by simp));obtain⟨p,m,a⟩:=bI.1 a;split at a
   ·rename_i k;obtain⟨l,v,rfl⟩:=cG.1 a;have z:x.1.1=4:=by rw[h]
    have j:=ni hr z;generalize bZ n x=f at*;cases f with
    | nil=>simp at m
    | cons c f=>
    have q:c=p:=by simpa using m
    subst q;cases n with
    | zero=>exact(dA (e c (by simp))).elim
    | succ n=>
    have w:=qS (e c (by simp)) k;obtain⟨A,C,D⟩:=o8 (g:=dZ M) (B:=uf (M+1)) (λy o d t=>Ls M (n+1) (by omega) y d o t) f (λy d=>e y (by simp[d])) l v;rw[i]at j;simp only[bA]at j;refine⟨dt h.symm ?_,?_⟩
    ·rw[i];show aG _ (bw uz (M+3)::bw c.1.2.2 (M+3)::l.map (dZ M)) (r::c::f)=true;simp only[aG,s (M+3),sP (e c (by simp)) k (M+3),A,iS]
    ·show (ex c.1.2.2 && decide ((l.length:Int)<=6) && l.all (uf (M+1)))=true;rw[w.2.2,C,jb (by omega)];rfl
   ·cases a
  ·cases a
theorem Cy(M:Nat):(n:Nat)->n<=M+1->(x:Tm n)->aJ ⟨n,x⟩->(l:List (Bh (M+1)))->Cx M n x=some l->aB (M+6) (cm M l) n x=true/\kT (M+1) l=(decide (1<=(l.length:Int)) && l.all λb=>decide (1<=(b.2.2.length:Int)))
 | 0,_,_,hr,_,_=>(dA hr).elim
 | n+1,hn,x,hr,l,h=>by
  have r:∀y∈bZ n x,aJ ⟨n,y⟩:=λy c=>eR hr c;simp only[Cx]at h;split at h
  ·rename_i a;obtain⟨d,o,e,p⟩:=ik hr a (ol [99,111,100,101] (by simp));have s:x.1.1=4:=by rw[d]
   have f:=ni hr s;obtain⟨t,i,u⟩:=o8 (g:=eu M) (B:=λb=>ex b.1 && decide ((b.2.2.length:Int)<=6) && b.2.2.all (uf (M+1))) (λy j c q=>Lr M n (by omega) y c j q) (bZ n x) r l h;rw[e]at f;simp only[bA]at f;refine⟨dt d.symm ?_,?_⟩
   ·rw[e];show aG _ (bw ov (M+4)::l.map (eu M)) (o::bZ n x)=true;simp only[aG,p (M+4),t,iS]
   ·have k:decide ((l.length:Int)<=7)=true:=jb (by omega);have m:l.all (xo (M+1))=l.all λb=>decide (1<=(b.2.2.length:Int)):=by
     rw[cJ]at i;refine qj λb a=>?_;have:=i b a;simp only[aK]at this;simp only[xo,this.1.1,this.1.2,this.2,eV,Bool.and_true]
    simp only[kT,k,m,Bool.and_true]
  ·cases h
theorem en{e β:Type}{f:e->β->Bool}{p:List e}{b:β}{q:List β}(c:aG f p (b::q)=true):∃a d,p=a::d/\f a b=true/\aG f d q=true:=by
 cases p with
 | nil=>simp[aG]at c
 | cons a p=>
  simp only[aG,aK]at c;exact⟨a,p,rfl,c.1,c.2⟩
theorem nj{a β:Type}{f:a->β->Bool}{p:List a}(b:aG f p ([]:List β)=true):p=[]:=by
 cases p with
 | nil=>rfl
 | cons c p=>simp[aG]at b
theorem LC{n m:Nat}{x:Tm n}{y:Tm (m+1)}(a:aB n x (m+1) y=true):(gK n x).1=y.1:=(Gl a).1
theorem om{N n:Nat}{x:Tm (N+1)}{c:aq}{ys:List (Tm (n+1))}(k:aB (N+1) x (n+2) (dx (n+1) (bw c n::ys))=true):fA N x=c/\aG (λa b=>aB N a (n+1) b) (bZ N x) ys=true:=by
 obtain⟨l,m⟩:=bQ k;obtain⟨a,q,g,h,o⟩:=en m;have d:x.1.1=4:=by rw[l];rfl
 have e:=LC h;have i:cg ⟨N,a⟩=2:=by
  cases N with
  | zero=>simp[aB]at h
  | succ N=>
   have:a.1.1=2:=by
    have j:a.1=(2,0,c):=e;rw[j]
   exact this
 have f:x.2.2[0]?=some a:=by rw[g];rfl
 have p:x.2.2.drop 1=q:=by rw[g];rfl
 constructor
 ·simp only[fA,d,dj,f,i];rw[e];rfl
 ·simp only[bZ,d,dj,f,i,p];exact o
theorem lP(a:aq):tK a a=true:=by simp[tK]
theorem uB{m β:Type}{n:Nat}{f:Tm n->Option m}{R:Tm n->β->Prop}{Q:m->β->Prop}(g:∀y b,R y b->∃a,f y=some a/\Q a b):(q:List (Tm n))->(l:List β)->fl R q l->∃c,cZ f q=some c/\fl Q c l
 | [],[],_=>⟨[],rfl,fl.nil⟩
 | [],_::_,h=>by have:=h.1;simp at this
 | _::_,[],h=>by have:=h.1;simp at this
 | y::q,b::l,h=>by
  obtain⟨a,o,k⟩:=g y b h.tail.1;obtain⟨c,p,j⟩:=uB g q l h.tail.2;refine⟨a::c,by simp[cZ,o,p],by simp[j.1],λi r v d e=>?_⟩;cases i with
  | zero=>
   simp at d e;subst d e;exact k
  | succ i=>exact j.2 i r v (by simpa using d) (by simpa using e)
theorem mu{β:Type}{n m:Nat}(g:β->Tm m):(q:List (Tm n))->(l:List β)->aG (λa b=>aB n a m b) q (l.map g)=true->fl (λy b=>aB n y m (g b)=true) q l
 | [],[],_=>fl.nil
 | [],_::_,h=>by simp[aG]at h
 | _::_,[],h=>by simp[aG]at h
 | y::q,b::l,h=>by
  simp only[aV,aG,aK]at h;have ih:=mu g q l h.2;refine⟨by simp[ih.1],λi e v c d=>?_⟩;cases i with
  | zero=>
   simp at c d;subst c d;exact h.1
  | succ i=>exact ih.2 i e v (by simpa using c) (by simpa using d)
theorem kQ{a s:aq}(b:a.toList≠s.toList):tK a s=false:=by simpa [tK]using b
theorem Pr(M N n:Nat)(a:Ac (n+1))(y:Tm N)(b:aB N y (n+2) (cH n a)=true):∃E,tg M N y=some E:=by
 cases N with
 | zero=>simp[aB]at b
 | succ N=>
 have i:nt.toList=[115,101,110,100]:=kL [115,101,110,100];have j:jy.toList=[115,112,97,119,110]:=kL [115,112,97,119,110];have k:ns.toList=[108,105,110,107]:=kL [108,105,110,107];have l:mC.toList=[115,116,111,112]:=kL [115,116,111,112];unfold cH at b;split at b
 ·obtain⟨c,d⟩:=om b;obtain⟨s,t,f,r,h⟩:=en d;obtain⟨B,C,o,z,q⟩:=en h;have p:=nj q;subst o p;simp only[tg,ki,c,f,lP];exact⟨_,rfl⟩
 split at b
 ·obtain⟨c,d⟩:=om b;obtain⟨s,t,f,r,h⟩:=en d;obtain⟨B,C,o,z,q⟩:=en h;obtain⟨D,F,p,A,v⟩:=en q;have g:=nj v;subst o p g;have w:cg ⟨N,s⟩=2:=by rw[kV r];rfl
  have x:cg ⟨N,D⟩=5:=by rw[kV A];rfl
  have e:tK jy nt=false:=kQ (by rw[i,j];decide);simp only[tg,ki,c,f,lP,e,Bool.false_and,eV];simp[Au,w,x]
 split at b
 ·obtain⟨c,d⟩:=om b;obtain⟨s,t,f,r,h⟩:=en d;have g:=nj h;subst g;have e:tK ns nt=false:=kQ (by rw[i,k];decide);have m:tK ns jy=false:=kQ (by rw[j,k];decide);simp only[tg,ki,c,f,lP,e,m,Bool.false_and,eV];simp
 ·obtain⟨c,d⟩:=om b;have g:=nj d;have e:tK mC nt=false:=kQ (by rw[i,l];decide);have m:tK mC jy=false:=kQ (by rw[j,l];decide);have u:tK mC ns=false:=kQ (by rw[k,l];decide);simp only[tg,ki,c,g,lP,e,m,u,Bool.false_and,eV];simp
theorem Pt(M N n:Nat)(c:Cl (n+1))(y:Tm N)(g:aB N y (n+4) (dZ n c)=true):∃e,As M N y=some e:=by
 cases N with
 | zero=>simp[aB]at g
 | succ N=>
 obtain⟨o,p⟩:=om g;obtain⟨B,G,i,D,q⟩:=en p;obtain⟨C,H,j,E,r⟩:=en q;obtain⟨a,I,k,d,s⟩:=en r;obtain⟨t,J,l,F,u⟩:=en s;have m:=nj u;subst j k l m;have v:cg ⟨N,a⟩=4:=by rw[kV d];rfl
 cases N with
 | zero=>simp[aB]at d
 | succ N=>
 obtain⟨h,z,_⟩:=uB (f:=tg M N) (R:=λy b=>aB N y (n+2) (cH n b)=true) (Q:=λ_ _=>True) (λy b w=>by
  obtain⟨e,x⟩:=Pr M N n b y w
  exact⟨e,x,trivial⟩) a.2.2 c.2.2 (mu (cH n) _ _ (bQ d).2)
 have A:cZ (tg M (N+1-1)) (FC (N+1) a)=some h:=z;refine⟨((bf (M+1) (N+1) B,bf (M+1) (N+1) C,bf (M+1) (N+1) t),(none,0),h),?_⟩;show th M (N+1) (fA (N+1) y) (bZ (N+1) y)=_;rw[o,i];unfold th;rw[if_pos (by rw[lP];rfl)];show (if cg ⟨N+1,a⟩=4 then (cZ (tg M (N+1-1)) (FC (N+1) a)).map _ else none)=_;rw[if_pos v,A];rfl
theorem Ps(M N n:Nat)(b:Bh (n+1))(y:Tm N)(c:aB N y (n+5) (eu n b)=true):∃a,Ar M N y=some a/\a.2.2.length=b.2.2.length:=by
 cases N with
 | zero=>simp[aB]at c
 | succ N=>
 obtain⟨g,h⟩:=om c;obtain⟨d,q,e,p,i⟩:=en h;have j:cg ⟨N,d⟩=2:=by rw[kV p];rfl
 obtain⟨r,o,k⟩:=uB (f:=As M N) (R:=λy b=>aB N y (n+4) (dZ n b)=true) (Q:=λ_ _=>True) (λy b l=>by
  obtain⟨a,m⟩:=Pt M N n b y l
  exact⟨a,m,trivial⟩) q b.2.2 (mu (dZ n) _ _ i)
 refine⟨(ym N d,(none,0),r),?_,k.1⟩;simp only[Ar,um,g,e,lP];simp[j,o]
theorem Lt(M N n:Nat)(q:N<=M+1)(l:List (Bh (n+1)))(e:kT (n+1) l=true)(x:Tm N)(r:aJ ⟨N,x⟩)(i:aB N x (n+6) (cm n l)=true):∃a,Cx M N x=some a/\kT (M+1) a=true/\a.length=l.length:=by
 cases N with
 | zero=>simp[aB]at i
 | succ N=>
 obtain⟨o,p⟩:=om i;obtain⟨h,u,c⟩:=uB (f:=Ar M N) (R:=λg b=>aB N g (n+5) (eu n b)=true) (Q:=λa b=>a.2.2.length=b.2.2.length) (λg b s=>Ps M N n b g s) (bZ N x) l (mu (eu n) _ _ p);have m:Cx M (N+1) x=some h:=by
  simp only[Cx,o,lP];simpa using u
 refine⟨h,m,?_,c.1⟩;rw[(Cy M (N+1) q x r h m).2];simp only[kT,xo,aK,cw,cJ]at e ⊢;refine⟨by rw[c.1];exact e.1.1,λa t=>?_⟩;obtain⟨d,j⟩:=dp t;have k:d<l.length:=by have:=(aZ.1 j).1;rw[<-c.1];exact this
 have:=c.2 d a l[d] j (aN k);rw[this];exact(e.2 l[d] (iv k)).1.1.2
def BN(M:Nat)(o:Option (List (Bh (M+1)))):Int:=match o with|some l=>if kT (M+1) l=true then 0 else 5|none=>5
def BM(M n:Nat)(x:Tm n):Int:=if bJ n x=0 then BN M (Cx M n x)else bJ n x
def uA(M:Nat)(E:Int)(o:Option (List (Bh (M+1))))(w:ag)(e:Ending)(w':ag):Prop:=
 ∃(l:List (Bh (M+1)))(a:ar)(c:Nat),e=.returned (.tuple #[ae a l.length c,ab E])/\Hid (am w w'/\(l.length<=c/\c<=maxLen)/\gL (M+1) w'.heap.size w' a l/\ue (kp (M+1) (λb=>w.heap.size<=b)) (λb=>w.heap.size<=b) a l/\(¬E=0->l=[])/\(E=0->∃d,o=some d/\fl (zv (M+1)) l d))
theorem sX{M:Nat}{E:Int}{o:Option (List (Bh (M+1)))}{w w':ag}(a:¬E=0)(c:am w w'):uA M E o w (.returned (.tuple #[ae none 0 0,ab E])) w':=
 ⟨[],none,0,rfl,c,⟨av _,aM _⟩,aj rfl,aj rfl,λ_=>rfl,λb=>(a b).elim⟩
theorem Hk(M:Nat)(k A:Int)(s:aq)(a:ar)(l c:Nat)(w:ag)(g:Int)(o:Option (List (Bh (M+1))))(E:Int)(J:Hid (E=if g=0 then BN M o else g))(Q:Hid (∀w1,am w w1->ao 53 #[.agg #[ab k,ab A,af s,ae a l c]] w1 λe w'=>e=.returned (ab g)/\am w1 w'))(H:Hid (g=0->∀w1,am w w1->ao 67 #[.agg #[ab k,ab A,af s,ae a l c]] w1 (uW M o w1))):ao 38 #[.agg #[ab k,ab A,af s,ae a l c]] w (uA M E o w):=by
 go_enter func38,ntmps38;go_wp2_with fail;refine(Q _ aX).mono ?_;rintro e w1 ⟨rfl,L⟩;have q:Hid (am w w1):=aX.trans (L.mono (by simp));have j:=ap (rG w _ _ _ _ _ L);clear L Q;by_cases z:g=0
 ·subst z;have S:=ap (H (by simp) w1 q);have X:ai w1 w.heap.size 0 (ab k):=ax j 0;have Y:ai w1 w.heap.size 1 (ab A):=ax j 1;have Z:ai w1 w.heap.size 2 (af s):=ax j 2;have aa:ai w1 w.heap.size 3 (ae a l c):=ax j 3;have an:w.heap.size<w1.heap.size:=(aI.1 j).1;have D:=ap (show E=BN M o by simpa using J.out);clear H J;go_wp2_with fail;refine S.mono ?_;rintro e B ⟨p,u,y,ak,rfl,i⟩;obtain⟨t,K⟩:∃t,p.length=t:=⟨_,rfl⟩;rw[K];have G:=ap K;have r:Hid (am w B):=q.trans (i.1.mono q.size);clear K S X Y Z aa j;cases ak
  ·have h:Hid (E=5):=by
     show E=5;rw[D.out];have d:=i.2.1;cases o with
     | none=>rfl
     | some f=>cases d
   have W:Hid (uA M E o w (.returned (.tuple #[ae none 0 0,ab 5])) B):=by
    have d:=sX (M:=M) (E:=E) (o:=o) (by rw[h.out];omega) r;rw[h.out]at d;rw[h.out];exact d
   go_wp2_with fail;exact ay (v:=.tuple #[ae none 0 0,ab 5]) (by simp[results,results38,go_sem]) rfl W
  ·have F:Hid (∀m,am B m->ao 65 #[ae u t y] m λe w'=>e=.returned (.bool (kT (M+1) p))/\am m w'):=λm T=>
     qm M p t G u y B.heap.size m (gL.below T i.2.2.2.1) (by have:=i.2.2.1;have:=G.out;unfold maxLen at*;omega) T.size
   obtain⟨b,x⟩:∃b,kT (M+1) p=b:=⟨_,rfl⟩;rw[x]at F;have R:=ap x;clear x;have I:Hid (∃f,o=some f/\fl (zv (M+1)) p f):=by
    have d:=i.2.1;cases o with
    | none=>cases d
    | some f=>exact⟨f,rfl,i.2.2.2.2.2 f rfl⟩
   cases b
   ·have h:Hid (E=5):=by
      show E=5;obtain⟨f,O,N⟩:=I.out;rw[D.out,O];show (if kT (M+1) f=true then (0:Int)else 5)=5;rw[<-Ll N,R.out];rfl
    go_wp2_with (go_at_call 65;refine(F _ (aA _ _)).mono ?_;rintro e m ⟨rfl,n⟩;have C:=ap (r.trans (n.mono r.size));clear n);refine ay (v:=.tuple #[ae none 0 0,ab 5]) (by simp[results,results38,go_sem]) rfl ?_;have d:=sX (M:=M) (E:=E) (o:=o) (by rw[h.out];omega) C;rw[h.out]at d;rw[h.out];exact d
   ·have U:Hid (E=0):=by
      show E=0;obtain⟨f,O,N⟩:=I.out;rw[D.out,O];show (if kT (M+1) f=true then (0:Int)else 5)=0;rw[<-Ll N,R.out];rfl
    go_wp2_with (go_at_call 65;refine(F _ (aA _ _)).mono ?_;rintro e m ⟨rfl,n⟩;have P:=ap n;have C:=ap (r.trans (n.mono r.size));clear n);refine ay (v:=.tuple #[ae u t y,ab 0]) (by simp[results,results38,go_sem]) rfl ?_;obtain⟨au,av,ad,ah,aj,aw⟩:=i;rw[U.out];exact⟨p,u,y,by rw[G.out],C,ad,(gL.below P ah).mono P.size,(cU (eD _) 2 (p7 (M+1)) u).1 _ _ _ (λb x=>aF q.size x) aj,λd=>(d rfl).elim,λ_=>I⟩
 ·have al:(g !=0)=true:=by simpa using z
  have V:Hid (E=g):=by
   show E=g;rw[J.out,if_neg z]
  clear H j;go_wp2_with fail;refine ay (v:=.tuple #[ae none 0 0,ab g]) (by simp[results,results38,go_sem]) rfl ?_;rw[V.out];exact sX z q
theorem BO(M n:Nat)(g:n<=M+1)(x:Tm n)(B:Nat)(w:ag)(c:In B w n x)(f:(aC n x).length<=2097152)(b:B<=w.heap.size):ao 38 #[dG n x] w (uA M (BM M n x) (Cx M n x) w):=by
 cases n with
 | zero=>exact c.elim
 | succ n=>
 exact Hk M x.1.1 x.1.2.1 x.1.2.2 x.2.1.1 x.2.2.length x.2.1.2 w (bJ (n+1) x) _ _ rfl (λd a=>eq (n+1) x B d (c.below (a.mono b)) (aF b a.size) f) (λe d a=>AD M (n+1) g x B d (c.below (a.mono b)) (aU.2 (bM.1 e).1) (aF b a.size))
theorem qC{n:Nat}{x:Tm n}(a:bJ n x=0):aJ ⟨n,x⟩:=aU.2 (bM.1 a).1
theorem fJ{n:Nat}{p:List (Bh (n+1))}(b:mK n p=0):kT (n+1) p=true/\bJ (n+6) (cm n p)=0/\L0 n p=cm n p:=by
 have a:=b;unfold mK at a;split at a
 ·rename_i c;exact⟨c,a,by unfold L0;rw[if_pos b]⟩
 ·omega
theorem Pz{n:Nat}{p:List (Bh (n+1))}(a:kT (n+1) p=true)(k:bJ (n+6) (cm n p)=0):mK n p=0:=by
 unfold mK;rw[if_pos a];exact k
theorem yE{M n:Nat}(i:n<=M+1){x:Tm n}(e:bJ n x=0){a l:List (Bh (M+1))}(j:Cx M n x=some a)(f:fl (zv (M+1)) l a)(h:kT (M+1) a=true):kT (M+1) l=true/\mK M l=0/\aB (M+6) (L0 M l) n x=true/\(aC (M+6) (cm M l)).length=(aC n x).length:=by
 have g:=Cy M n i x (qC e) a j;have c:kT (M+1) l=true:=(Ll f).trans h;have b:aB (M+6) (cm M l) n x=true:=bS _ _ _ _ _ _ (Lm f) g.1;have d:mK M l=0:=Pz c ((cd b).trans e);exact⟨c,d,by rw[(fJ d).2.2];exact b,kX _ _ _ _ b⟩
theorem Jd{n:Nat}{p:List (Bh (n+1))}(i:mK n p=0){y:Tm (n+6)}(a:aB (n+6) y (n+6) (L0 n p)=true):bJ (n+6) y=0/\BM (n+5) (n+6) y=0/\∀e l,Cx (n+5) (n+6) y=some e->fl (zv (n+6)) l e->kT (n+6) l=true/\mK (n+5) l=0/\aB (n+11) (L0 (n+5) l) (n+6) (L0 n p)=true/\l.length=p.length/\(aC (n+11) (cm (n+5) l)).length=(aC (n+6) (cm n p)).length:=by
 obtain⟨j,k,f⟩:=fJ i;rw[f]at a;have b:bJ (n+6) y=0:=(cd a).trans k;obtain⟨e,d,h,m⟩:=Lt (n+5) (n+6) n (av _) p j y (qC b) a;refine⟨b,?_,λt l c g=>?_⟩
 ·unfold BM;rw[if_pos b,d];unfold BN;simp only[h,dj]
 ·rw[d]at c;injection c with c;subst c;obtain⟨o,q,r,s⟩:=yE (av _) b d g h;exact⟨o,q,by rw[f];exact bS _ _ _ _ _ _ r a,g.1.trans m,by rw[s];exact kX _ _ _ _ a⟩
def mO(lo:Nat)(room:Int)(K:Nat)(e:aO)(B:Nat)(w:ag):List (Int×aq×Tc)->List Nat->Nat->Prop
 | [],[],c=>c<=B
 | x::l,b::bs,c=>∃a d,(c<=a/\a<=d)/\P1 lo b x.2.1 room x.2.2 [] K (λq=>a<=q/\q<d) w/\(∀q,a<=q->q<d->¬e q)/\mO lo room K e B w l bs d
 | _,_,_=>False
section
variable {lo K:Nat} {room:Int} {X:aO} {B:Nat} {w:ag}
theorem mO.le:{l:List (Int×aq×Tc)}->{a:List Nat}->{c:Nat}->mO lo room K X B w l a c->c<=B
 | [],[],_,h=>h
 | [],_::_,_,h=>h.elim
 | _::_,[],_,h=>h.elim
 | _::_,_::_,_,⟨c1,c2,h1,_,_,h4⟩=>by have:=h4.le;omega
theorem mO.kept2{w':ag}{S f:aO}{e c0:Nat}(a:bE S w w')(j:∀q,c0<=q->q<B->S q->X q)(k:∀q,q<B->f q->X q)(i:B<=e):{l:List (Int×aq×Tc)}->{g:List Nat}->{c:Nat}->c0<=c->mO lo room K X B w l g c->mO lo room K f e w' l g c
 | [],[],_,_,h=>aF h i
 | [],_::_,_,_,h=>h.elim
 | _::_,[],_,_,h=>h.elim
 | _::_,_::_,_,hc,⟨c1,c2,h1,h2,h3,h4⟩=>by
  have o:=h4.le;exact⟨c1,c2,h1,h2.kept (S:=S) ⟨a.os,a.tape,a.output,a.size,a.block⟩ λb q d=>h3 b q.1 q.2 (j b (by omega) (by omega) d),λq m n d=>h3 q m n (k q (by omega) d),h4.kept2 a j k i (by omega)⟩
theorem mO.kept{w':ag}{S b:aO}{a:Nat}(i:bE S w w')(g:∀q,q<B->S q->X q)(h:∀q,q<B->b q->X q)(f:B<=a){l:List (Int×aq×Tc)}{d:List Nat}{c:Nat}(e:mO lo room K X B w l d c):mO lo room K b a w' l d c:=e.kept2 (c0:=0) i (λq _=>g q) h f (aM _)
theorem mO.snoc{a B2 e b:Nat}{x:Int×aq×Tc}(g:B<=a)(d:a<=B2/\B2<=e)(i:P1 lo b x.2.1 room x.2.2 [] K (λq=>a<=q/\q<B2) w)(j:∀q,a<=q->q<B2->¬X q):{l:List (Int×aq×Tc)}->{f:List Nat}->{c:Nat}->mO lo room K X B w l f c->mO lo room K X e w (l++ [x]) (f++ [b]) c
 | [],[],_,h=>⟨a,B2,⟨aF h g,d.1⟩,i,j,d.2⟩
 | [],_::_,_,h=>h.elim
 | _::_,[],_,h=>h.elim
 | _::_,_::_,_,⟨c1,c2,h1,h2,h3,h4⟩=>⟨c1,c2,h1,h2,h3,h4.snoc g d i j⟩
end
section
variable {p:lG} {s:Sy} {d:gE} {w:ag}
theorem Nz{n:Nat}{x:Tm n}(room:Int)(nm:aq)(b:bJ n x=0):gD 13 (cn n x) room nm=gD n x room nm:=by
 have a:=eI b;unfold gD kh;rw[cd a,cR _ _ _ _ a,mw _ _ _ _ a]
theorem bC.made(A:bC p s d w){N af:Nat}{pa:ar}{pl pc:Nat}{t:List (Int×aq×Tm (N+1))}(aE:w.ownsRow af 174 6 (ae pa pl pc) pl (t.flatMap λg=>Pw g.1 g.2.1 g.2.2))(aA:t.length=pl)(Z:pl<=1000)(aF:∀g∈t,bJ _ g.2.2=0/\In w.heap.size w _ g.2.2):ao 47 #[aH p.b,ae pa pl pc] w λe w'=>∃v b,e=.returned (.tuple #[v,.bool b])/\Hid (am w w'/\b=s.made p.n p.prog p.room (t.map λg=>(g.1,g.2.1,cn _ g.2.2))/\(b=true->∃m a c,v=ae a pl c/\m.length=pl/\w'.ownsRow w.heap.size 65 1 v pl (m.map AX)/\mO p.lo p.room (d.k+201) (λq=>v.ownBlock=some q) w'.heap.size w' (t.map λg=>(g.1,g.2.1,cn _ g.2.2)) m w.heap.size)):=by
 have aC:kT (p.n+1) p.prog=true:=(fJ A.pg.2.2.2.1).1;obtain⟨aT,P,ag,_,au⟩:=sj aE (by decide) λg=>rfl;injection ag with ai el aU;subst ai;have G:∀f,f<pl->t[f]?=some (t.getD f (0,⟨#[]⟩,((0,0,⟨#[]⟩),(none,0),[]))):=λf i=>by
  rw[nz,aN (by omega)];rfl
 generalize U:(λf=>t.getD f (0,⟨#[]⟩,((0,0,⟨#[]⟩),(none,0),[])))=h;have G:∀f,f<pl->t[f]?=some (h f):=λf i=>by rw[G f i,<-U]
 clear U;obtain⟨o,K⟩:∃o,o=t.map λg=>(g.1,g.2.1,cn _ g.2.2):=⟨_,rfl⟩;rw[<-K];have V:o.length=pl:=by rw[K,dS,aA]
 have L:∀f,f<pl->o[f]?=some ((h f).1,(h f).2.1,cn _ (h f).2.2):=λf i=>by rw[K,dn,G f i];rfl
 have X:∀f,f<pl->bJ _ (h f).2.2=0/\In w.heap.size w _ (h f).2.2:=λf i=>aF _ (aL (G f i));have Y:∀f,f<pl->gD 13 (cn _ (h f).2.2) p.room (h f).2.1=gD _ (h f).2.2 p.room (h f).2.1:=λf i=>Nz _ _ (X f i).1;have aG:∀f,f<pl->o.take (f+1)=o.take f++ [((h f).1,(h f).2.1,cn _ (h f).2.2)]:=λf i=>by
  rw[dF,L f i];rfl
 refine Ie p.b pa pl pc (s.may pl) p.room w (λf=>(h f).1) (λf=>(h f).2.2.1.1) (λf=>(h f).2.2.1.2.1) (λf=>(h f).2.1) (λf=>(h f).2.2.1.2.2) (λf=>(h f).2.2.2.1.1) (λf=>(h f).2.2.2.2.length) (λf=>(h f).2.2.2.1.2) (λf=>lQ p.n p.prog (h f).2.1) (λf=>gD _ (h f).2.2 p.room (h f).2.1) (λf m v j=>mO p.lo p.room (d.k+201) (λq=>v.ownBlock=some q) j.heap.size j (o.take f) m w.heap.size/\∀q,v.ownBlock=some q->q<j.heap.size)
  (λf H m v j=>∃y,(w.heap.size<=y/\y<=j.heap.size)/\(mO p.lo p.room (d.k+201) (λq=>v.ownBlock=some q) y j (o.take f) m w.heap.size)/\(∀q,v.ownBlock=some q->q<y)/\P1 p.lo H (h f).2.1 p.room (cn _ (h f).2.2) [] (d.k+201) (λq=>y<=q/\q<j.heap.size) j) (λv b w'=>am w w'/\b=s.made p.n p.prog p.room o/\(b=true->∃m a c,v=ae a pl c/\m.length=pl/\w'.ownsRow w.heap.size 65 1 v pl (m.map AX)/\mO p.lo p.room (d.k+201) (λq=>v.ownBlock=some q) w'.heap.size w' o m w.heap.size)) Z A.lo.2 A.cells.2.1 (λf i=>?_) (A.mayHave pl Z) (λf j i l=>(A.later l).knows _) (λf m v j i r l F=>?_) ?_ (λf m v j I F l=>?_) (λf H m a c E P j ad I C ap l B aw ax=>?_) (λj l u=>?_) λj m a c l aj R al an T=>?_
 ·obtain⟨E,J,Q,z⟩:=au f _ (G f i);exact⟨E,J,Q,z 0 _ rfl,z 1 _ rfl,z 2 _ rfl,z 3 _ rfl,z 4 _ rfl,z 5 _ rfl⟩
 ·have aY:=Eh aC r;obtain⟨aJ,aM⟩:=X f i;refine(P1.new _ (h f).2.2 p.room (h f).2.1 j (by omega) ((aM.below l).mono l.size) (fD aJ)).mono ?_;rintro e w' ⟨q,rfl,ab⟩;obtain⟨M,a0,aO⟩:=ab;refine⟨q,rfl,M,λe=>?_⟩;obtain⟨H,J,Q,z,ah⟩:=aO e;have:=A.lo.1;have:=l.size;refine⟨H,J,j.heap.size,⟨l.size,M.size⟩,F.1.kept (aR M λ_=>False) (λ_ _ g=>g.elim) (λ_ _ g=>g) (av _),F.2,ah.mono (λb g=>g) (by omega) λb g=>⟨by omega,g.2⟩⟩
 ·exact⟨av _,(λq g=>by cases g)⟩
 ·exact⟨F.1.kept (aR l λ_=>False) (λ_ _ g=>g.elim) (λ_ _ g=>g) l.size,λq g=>aW (F.2 q g) l.size⟩
 ·obtain⟨y,⟨a1,a2⟩,aP,aa,aQ⟩:=ap;have ay:bE (λq=>(Value.slice a f c).ownBlock=some q) ad I:=⟨B.os,B.tape,B.output,B.size,λk r aB=>B.block k r λe=>aB e.symm⟩;have r:bE (λq=>(Value.slice a f c).ownBlock=some q) j I:=(aR l _).trans ay λ_ _ e=>e;have aV:=l.size;have aX:=B.size;have W:∀q,q<j.heap.size->(Value.slice (some ⟨E,0,none⟩) (f+1) P).ownBlock=some q->(Value.slice a f c).ownBlock=some q:=λq aD g=>by
   obtain rfl:E=q:=az g;rcases aw with e|e
   ·exact e
   ·omega
  refine⟨?_,λq g=>?_⟩
  ·rw[aG f C];refine mO.snoc (av y) (B2:=j.heap.size) (by omega) ?_ ?_ (aP.kept r (λq _ g=>g) (λq aD g=>W q (by omega) g) (av _))
   ·exact aQ.kept (S:=λq=>(Value.slice a f c).ownBlock=some q) ⟨r.os,r.tape,r.output,r.size,r.block⟩ λb g D=>by have:=aa b D;omega
   ·exact λq O D aS=>by have:=aa q (W q D aS);omega
  ·obtain rfl:E=q:=az g;exact ax
 ·refine⟨l,?_,(λg=>by cases g)⟩;unfold Sy.made;rw[V];rcases u with u|⟨f,i,u⟩
  ·rw[u];rfl
  ·refine Eq.symm (pJ.2 (ak ?_));rw[List.all_eq_false];refine⟨_,aL (L f i),?_⟩;simp only[aK,cv,not_and];intro O D;rw[Y f i]at D;rcases u with u|u
   ·rw[u]at O;cases O
   ·exact u D
 ·refine⟨l,?_,λ_=>⟨m,a,c,rfl,al,an,?_⟩⟩
  ·unfold Sy.made;rw[V,aj,eV,eq_comm,cJ];intro x aI;obtain⟨f,i⟩:=List.mem_iff_getElem?.1 aI;have C:f<pl:=by have:=(aZ.1 i).1;omega
   rw[L f C]at i;obtain rfl:=az i;simp only[aK,cv];exact⟨(R f C).1,(Y f C).trans (R f C).2⟩
  ·rw[bD (by omega)]at T;exact T.1
end
theorem AE(x:Nat)(a O P:Int)(Q:aq)(ma:ar)(T S:Nat)(f:Int)(sa:ar)(sl sc:Nat)(pa:ar)(pl pc:Nat)(ka:ar)(kl kc:Nat)(av:ar)(vl aE:Nat)(aa:Nat->Nat)(C D E:Nat->Int)(F:Nat->aq)(xa:Nat->ar)(G xc:Nat->Nat)(au:Nat->Int)(w:ag)(k o p:Nat->Nat->bt)(R:bt)(aJ:vl<=1000)(aI:sl<=1000)(aG:kl<=1000)(X:Hid (∀q W,am w W->w.heap.size<=q->W.heap[q]?=some (.cells #[ab O,ab P,af Q,ae ma T S,ab f,ae sa sl sc,ae pa pl pc,ae ka kl kc] 117)->k q 0 W))(H:Hid (∀q W,k q vl W->o q 0 W))(y:Hid (∀q W,o q sl W->p q 0 W))(i:Hid (∀q j W,(k q j W\/o q j W\/p q j W)->W.heap[q]?=some (.cells #[ab O,ab P,af Q,ae ma T S,ab f,ae sa sl sc,ae pa pl pc,ae ka kl kc] 117)))(I:Hid (∀q j W,j<vl->k q j W->(∃g,av=some ⟨g,0,none⟩/\ai W g j (.pointer (some ⟨aa j,0,none⟩)))/\Hid (ao 43 #[aH x,ab a,.pointer (some ⟨aa j,0,none⟩)] W λe w'=>e=.returned (.tuple #[])/\Hid (k q (j+1) w'))))(z:Hid (∀q j W,j<sl->o q j W->(∃g,sa=some ⟨g,0,none⟩/\ai W g (j*5) (ab (C j))/\ai W g (j*5+1) (ab (D j))/\ai W g (j*5+2) (ab (E j))/\ai W g (j*5+3) (af (F j))/\ai W g (j*5+4) (ae (xa j) (G j) (xc j)))/\Hid (∀Z,am W Z->ao 82 #[aH x,ab a,ab (C j),.agg #[ab (D j),ab (E j),af (F j),ae (xa j) (G j) (xc j)]] Z λe w'=>e=.returned (.tuple #[])/\Hid (o q (j+1) w'))))(t:Hid (∀q j W,j<kl->p q j W->(∃g,ka=some ⟨g,0,none⟩/\ai W g j (ab (au j)))/\Hid (ao 83 #[aH x,ab a,ab (au j)] W λe w'=>e=.returned (.tuple #[])/\Hid (p q (j+1) w'))))(s:Hid (∀q W,p q kl W->(f=1->ao 48 #[aH x,ab a,ab 1] W λe w'=>e=.returned (.tuple #[])/\Hid (R w'))/\(f≠1->R W))):ao 49 #[aH x,ab a,.agg #[ab O,ab P,af Q,ae ma T S,ab f,ae sa sl sc,ae pa pl pc,ae ka kl kc],ae av vl aE] w λe w'=>e=.returned (.tuple #[])/\Hid (R w'):=by
 go_enter func49,ntmps49;go_upto_region 1 with fail;generalize m:w.alloc _=aw;obtain⟨q,B⟩:∃q,q=w.heap.size:=⟨_,rfl⟩;rw[<-B];have V:Hid (k q 0 aw):=X q aw (by rw[<-m];exact aS _ _) (dT B.symm) (by rw[<-m,B];exact aD _ _);clear m B X;go_wp2_with fail;go_loopw [9,16] (λ_ c wr=>∃(j:Nat),j<=vl/\c=ab j/\Hid (k q j wr)) (λ_ c _=>vl-(intOf c).toNat)
 case atStart=>exact⟨0,aM _,rfl,V⟩
 case round=>
 obtain⟨j,A,rfl,b⟩:=hrel;by_cases l:j<vl
 ·obtain⟨⟨g,rfl,M⟩,n⟩:=I.out q j wr l b;have al:(0:Int)<=(j:Int):=by omega
  have an:(j:Int)<(vl:Int):=by omega
  clear H y i I z t s b;go_wp2_with fail;refine n.mono ?_;rintro e d ⟨rfl,h⟩;go_wp2_with fail;go_roundw
  case rel=>exact⟨j+1,by omega,by go_num,h⟩
  case measure=>simp[intOf];omega
 obtain rfl:j=vl:=by omega
 have K:=ap (H _ _ b);clear b I H V A l;have aB:ai wr q 5 (ae sa sl sc):=ah (i q 0 wr (ak (aj K))) 5;go_wp2_with fail;clear aB;go_loopw [11,28] (λ_ c U=>∃(j:Nat),j<=sl/\c=ab j/\Hid (o q j U)) (λ_ c _=>sl-(intOf c).toNat)
 case atStart=>exact⟨0,aM _,rfl,K⟩
 case round=>
 clear K;obtain⟨j,A,rfl,b⟩:=hrel;by_cases l:j<sl
 ·obtain⟨⟨g,rfl,M,ay,az,aA,ad⟩,n⟩:=z.out q j _ l b;have al:(0:Int)<=(j:Int):=by omega
  have an:(j:Int)<(sl:Int):=by omega
  clear y i z t s b;go_upto_region 9 with fail;generalize m:World.alloc _ _=d;have r:d.heap[wr.heap.size]?=some (.cells #[ab (C j),ab (D j),ab (E j),af (F j),ae (xa j) (G j) (xc j)] 177):=by
   rw[<-m];exact aD _ _
  have ax:=ap (n d (by rw[<-m];exact aS _ _));generalize wr.heap.size=u at*;have d0:ai d u 0 (ab (C j)):=ah r 0;have d1:ai d u 1 (ab (D j)):=ah r 1;have d2:ai d u 2 (ab (E j)):=ah r 2;have d3:ai d u 3 (af (F j)):=ah r 3;have d4:ai d u 4 (ae (xa j) (G j) (xc j)):=ah r 4;clear m r n M ay az aA ad;go_wp2_with fail;refine ax.mono ?_;rintro e aK ⟨rfl,h⟩;go_wp2_with fail;go_roundw
  case rel=>exact⟨j+1,by omega,by go_num,h⟩
  case measure=>simp[intOf];omega
 obtain rfl:j=sl:=by omega
 have L:=ap (y _ _ b);clear b z y A l;have aC:ai wr q 7 (ae ka kl kc):=ah (i q 0 wr (ak (ak L))) 7;go_wp2_with fail;clear aC;go_loopw [13,43] (λ_ c U=>∃(j:Nat),j<=kl/\c=ab j/\Hid (p q j U)) (λ_ c _=>kl-(intOf c).toNat)
 case atStart=>exact⟨0,aM _,rfl,L⟩
 case round=>
 clear L;obtain⟨j,A,rfl,b⟩:=hrel;by_cases l:j<kl
 ·obtain⟨⟨g,rfl,M⟩,n⟩:=t.out q j _ l b;have al:(0:Int)<=(j:Int):=by omega
  have an:(j:Int)<(kl:Int):=by omega
  clear i t s b;go_wp2_with fail;refine n.mono ?_;rintro e d ⟨rfl,h⟩;go_wp2_with fail;go_roundw
  case rel=>exact⟨j+1,by omega,by go_num,h⟩
  case measure=>simp[intOf];omega
 obtain rfl:j=kl:=by omega
 have ad:ai wr q 4 (ab f):=ah (i q _ wr (ak (ak b))) 4;have Y:=ap (s q _ b);clear b t i s;by_cases N:f=1
 ·subst N;have J:=ap (Y.1 rfl);go_wp2_with fail;refine J.mono ?_;rintro e d ⟨rfl,h⟩;go_wp2_with fail;exact dL (v:=.tuple #[]) (by simp[results]) rfl ⟨rfl,h⟩
 ·have J:=ap (Y.2 N);have aF:(f==1)=false:=by simpa using N
  go_wp2_with fail;exact dL (v:=.tuple #[]) (by simp[results]) rfl ⟨rfl,J⟩
def qA(M:aO)(a:Nat)(d b:gE)(w w':ag):Prop:=bE (λq=>d.ow q<0) w w'/\(∀q,q<w.heap.size->¬M q->b.ow q=d.ow q)/\(∀q,q<w.heap.size->M q->0<=b.ow q)/\b.k=d.k/\b.es.length<=d.es.length+a/\b.wn<=d.wn+a/\b.bn<=d.bn+a
section
variable {p:lG} {s:Sy} {d d1 d2:gE} {w w1 w2:ag} {M:aO} {a b:Nat}
theorem qA.up(m:qA M a d d1 w w1)(k:eA b d1 d2 w1 w2):qA M (a+b) d d2 w w2:=by
 obtain⟨h,i,j,n,q,r,s⟩:=m;obtain⟨o,l,p,u,v,x⟩:=k;have t:=h.size;refine⟨h.trans o λc e g=>?_,λc e f=>(l c (by omega)).trans (i c e f),λc e f=>by rw[l c (by omega)];exact j c e f,p.trans n,by omega,by omega,by omega⟩;by_cases f:M c
 ·have:=j c e f;omega
 ·rw[i c e f]at g;exact g
theorem qA.ad{M':aO}(m:qA M a d d1 w w1)(k:OV M' b d1 d2 w1 w2)(o:∀q,M' q->M q):qA M (a+b) d d2 w w2:=by
 obtain⟨h,i,j,n,t,u,v⟩:=m;obtain⟨p,l,r,s,y,z,A⟩:=k;have x:=h.size;refine⟨h.trans p λq e g=>?_,λq e c=>(l q (by omega) λf=>c (o q f)).trans (i q e c),λq e c=>?_,s.trans n,by omega,by omega,by omega⟩
 ·by_cases c:M q
  ·have:=j q e c;omega
  ·rw[i q e c]at g;exact g
 ·by_cases f:M' q
  ·have:=r q f;omega
  ·rw[l q (by omega) f];exact j q e c
theorem qA.mono(c:qA M a d d1 w w1)(l:a<=b):qA M b d d1 w w1:=by
 obtain⟨e,f,g,h,i,j,k⟩:=c;exact⟨e,f,g,h,by omega,by omega,by omega⟩
theorem Gv.ug{m:Nat}{x:Tm m}(e:Gv d w x)(k:qA M a d d1 w w1):Gv d1 w1 x:=by
 have g:=eJ k.1 (D:=λb=>0<=d.ow b/\b<w.heap.size) (λb c f=>by omega) ⟨e.1,In.offB e.2 e.1⟩;refine⟨g.1,g.2.mono λb c=>?_⟩;by_cases f:M b
 ·exact k.2.2.1 b c.2 f
 ·rw[k.2.1 b c.2 f];exact c.1
theorem BG(a:Int):(l:List (Int×aq×Tc))->(s:Sy)->(l.foldl (λs x=>s.add a x.2.1 x.2.2) s).ps.length=s.ps.length+l.length/\(l.foldl (λs x=>s.add a x.2.1 x.2.2) s).last=s.last+l.length
 | [],s=>by simp
 | x::l,s=>by
  have b:=BG a l (s.add a x.2.1 x.2.2);rw[gU,b.1,b.2];simp only[Sy.add,Sy.tell,bz,bA,iU];omega
theorem bC.follow(aJ:bC p s d w){a:Int}(ap:dN a)(i:Tk)(bb:AZ 8 i.sends i.spawns i.links)(y0 y1:Int)(y2:aq)(ya:ar)(yl yc:Nat){N aE a2 c B:Nat}{sa:ar}{sl sc:Nat}{pa:ar}{pl pc:Nat}{ka:ar}{kl kc:Nat}{L:ar}{vl R:Nat}{K:List (Int×Tm (N+1))}{J:List Nat}{aD:aO}(bk:w.ownsRow aE 177 5 (ae sa sl sc) sl (K.flatMap λg=>Ov g.1 g.2))(bd:w.ownsRow aE 3 1 (ae ka kl kc) kl (i.links.map λX=>ab X))(bm:w.ownsRow a2 65 1 (ae L vl R) vl (J.map AX))(be:K.length=sl/\i.links.length=kl/\J.length=vl/\i.spawns.length=vl)(ax:K.map (λg=>(g.1,cn _ g.2))=i.sends)(bl:∀g∈K,bJ _ g.2=0/\Gv d w g.2)(bg:∀q,((Value.slice sa sl sc).ownBlock=some q\/(Value.slice ka kl kc).ownBlock=some q\/(Value.slice L vl R).ownBlock=some q)->0<=d.ow q)(a8:mO p.lo p.room (d.k+201) aD B w i.spawns J c)(bw:B<=w.heap.size)(how:∀q,c<=q->q<B->d.ow q=0)(bf:s.may vl=true)(bA:d.k<=47000)(bx:d.es.length<=97000)(bK:d.wn<=900000)(bz:d.bn<=900000):ao 49 #[aH p.b,ab a,PO y0 y1 y2 ya yl yc i.fate sa sl sc pa pl pc ka kl kc,ae L vl R] w λe w'=>e=.returned (.tuple #[])/\Hid (∃O,bC p (s.follow a i) O w'/\qA (λq=>c<=q/\q<B) 200 d O w w'):=by
 obtain⟨bo,bL,bM,bN⟩:=be;obtain⟨⟨aG,bu,bv⟩,a4,a5⟩:=bb;have bH:=KZ bf;have bI:sl<=8:=by rw[<-bo];rw[<-ax,dS]at aG;exact aG
 have T:∀{D:Type}(l:List D)(g:D)(f:Nat),f<l.length->l[f]?=some (l.getD f g):=λl g f j=>by
  rw[nz,aN j];rfl
 obtain⟨n,ah⟩:∃n:Nat->Int×Tm (N+1),∀f,f<sl->K[f]?=some (n f):=⟨_,λf j=>T K (0,((0,0,⟨#[]⟩),(none,0),[])) f (by omega)⟩;obtain⟨aC,al⟩:∃n:Nat->Int,∀f,f<kl->i.links[f]?=some (n f):=⟨_,λf j=>T i.links 0 f (by omega)⟩;obtain⟨aA,aK⟩:∃n:Nat->Nat,∀f,f<vl->J[f]?=some (n f):=⟨_,λf j=>T J 0 f (by omega)⟩;obtain⟨br,aM⟩:∃n:Nat->Int×aq×Tc,∀f,f<vl->i.spawns[f]?=some (n f):=⟨_,λf j=>T i.spawns (0,⟨#[]⟩,sH) f (by omega)⟩;have aw:∀q,((Value.slice sa sl sc).ownBlock=some q\/(Value.slice ka kl kc).ownBlock=some q\/(Value.slice L vl R).ownBlock=some q)->¬d.ow q<0:=λq g=>by have:=bg q g;omega
 have a9:∀h,bE (λq=>d.ow q<0) w h->∀f,f<sl->∃o,sa=some ⟨o,0,none⟩/\∀(t:Nat)(X:au),(Ov (n f).1 (n f).2)[t]?=some X->ai h o (f*5+t) X:=λh P f j=>by
  obtain⟨_,_,v,_,C⟩:=sj (bB bk P λq g=>aw q (aj g)) (by decide) λg=>rfl;injection v with v;subst v;obtain⟨o,z,_,A⟩:=C f _ (ah f j);exact⟨o,z,A⟩
 have a7:∀h,bE (λq=>d.ow q<0) w h->∀f,f<kl->∃o,ka=some ⟨o,0,none⟩/\ai h o f (ab (aC f)):=λh P f j=>by
  have Q:=bB bd P λq g=>aw q (ak (aj g));rw[List.map_eq_flatMap]at Q;obtain⟨_,_,v,_,C⟩:=sj Q (by decide) λg=>rfl;injection v with v;subst v;obtain⟨o,z,_,A⟩:=C f _ (al f j);have:=A 0 _ rfl;simp only[Nat.mul_one,iY]at this;exact⟨o,z,this⟩
 have ba:∀h,bE (λq=>d.ow q<0) w h->∀f,f<vl->∃o,L=some ⟨o,0,none⟩/\ai h o f (.pointer (some ⟨aA f,0,none⟩)):=λh P f j=>by
  have Q:=bB bm P λq g=>aw q (ak (ak g));rw[List.map_eq_flatMap]at Q;obtain⟨_,_,v,_,C⟩:=sj Q (by decide) λg=>rfl;injection v with v;subst v;obtain⟨o,z,_,A⟩:=C f _ (aK f j);have:=A 0 _ rfl;simp only[Nat.mul_one,iY]at this;exact⟨o,z,this⟩
 have aQ:∀{D:Type}{l:List D}{f:Nat}{g:D},l[f]?=some g->l.drop f=g::l.drop (f+1):=λ{D l f g} e=>by
  obtain⟨a6,rfl⟩:=aZ.1 e;exact eX a6
 have ay:∀{D:Type}{l:List D}{f:Nat}{g:D},l[f]?=some g->l.take (f+1)=l.take f++ [g]:=λ{D l f g} e=>by
  rw[dF,e];rfl
 obtain⟨U,aU⟩:∃U,U=i.spawns.foldl (λs x=>s.add a x.2.1 x.2.2) s:=⟨_,rfl⟩;obtain⟨V,aV⟩:∃V,V=i.sends.foldl (λs x=>s.send a x.1 x.2) U:=⟨_,rfl⟩;obtain⟨W,aW⟩:∃W,W=i.links.foldl (λs x=>s.link a x) V:=⟨_,rfl⟩;have bj:s.follow a i=if i.fate=1 then W.fin a 1 else W:=by rw[aW,aV,aU];rfl
 let aF:Obj:=.cells #[ab y0,ab y1,af y2,ae ya yl yc,ab i.fate,ae sa sl sc,ae pa pl pc,ae ka kl kc] 117;let Z:Nat->Prop:=λq=>c<=q/\q<B;let aB:Sy->Nat->Nat->ag->Prop:=λbp k q h=>∃d1,bC p bp d1 h/\qA Z k d d1 w h/\(w.heap.size<=q/\q<h.heap.size/\h.heap[q]?=some aF/\d1.ow q=0)
 refine AE p.b a y0 y1 y2 ya yl yc i.fate sa sl sc pa pl pc ka kl kc L vl R aA (λf=>(n f).1) (λf=>(n f).2.1.1) (λf=>(n f).2.1.2.1) (λf=>(n f).2.1.2.2) (λf=>(n f).2.2.1.1) (λf=>(n f).2.2.2.length) (λf=>(n f).2.2.1.2) aC w
  (λq f h=>∃d1,bC p ((i.spawns.take f).foldl (λs x=>s.add a x.2.1 x.2.2) s) d1 h/\qA Z f d d1 w h/\(w.heap.size<=q/\q<h.heap.size/\h.heap[q]?=some aF/\d1.ow q=0)/\∃S,c<=S/\mO p.lo p.room (d.k+201) aD B h (i.spawns.drop f) (J.drop f) S/\∀q,S<=q->q<B->d1.ow q=0)
  (λq f h=>aB ((i.sends.take f).foldl (λs x=>s.send a x.1 x.2) U) (vl+2*f) q h) (λq f h=>aB ((i.links.take f).foldl (λs x=>s.link a x) V) (vl+2*sl+f) q h) (λw'=>∃O,bC p (s.follow a i) O w'/\qA Z 200 d O w w') (by omega) (by omega) (by omega) (λq h am aS aP=>?_) (λq h y=>?_) (λq h y=>?_) (λq f h y=>?_) (λq f h j y=>?_) (λq f h j y=>?_) (λq f h j y=>?_) λq h y=>?_
 ·have bi:=(aI.1 aP).1;refine⟨d,aJ.later am,⟨aR am _,λ_ _ _=>rfl,λq _ g=>by rw[how q g.1 g.2];exact jD 0,rfl,av _,av _,av _⟩,⟨aS,bi,aP,?_⟩,c,av _,a8.kept (aR am λ_=>False) (λ_ _ g=>g.elim) (λ_ _ g=>g) (av _),how⟩;by_cases g:d.ow q=0
  ·exact g
  ·have:=(aJ.low q g).2;omega
 ·obtain⟨d1,r,m,E,_⟩:=y;rw[bD (by omega),<-aU]at r;exact⟨d1,r,m,E⟩
 ·obtain⟨d1,r,m,E⟩:=y;rw[bD (by rw[<-ax,dS];omega),<-aV]at r;exact⟨d1,r,m,E⟩
 ·rcases y with⟨d1,_,_,E,_⟩|⟨d1,_,_,E⟩|⟨d1,_,_,E⟩
  ·exact E.2.2.1
  ·exact E.2.2.1
  ·exact E.2.2.1
 ·obtain⟨d1,r,m,⟨z,F,A,G⟩,S,bO,aY,az⟩:=y;refine⟨ba h m.1 f j,?_⟩;rw[aQ (aM f j),aQ (aK f j)]at aY;obtain⟨a3,aa,bP,a0,_,a1⟩:=aY;have bc:=BG a (i.spawns.take f) s;rw[dK]at bc;have bG:=a1.le;have bF:=m.2.2.2.1;refine(r.add a (M:=λq=>a3<=q/\q<aa) (a0.mono (λ_ g=>g) (by omega) (P1.lie2 a0)) (λq g=>az q (by omega) (by omega)) (by omega) (by omega) (by have:=m.2.2.2.2.1;omega)).mono ?_;rintro e w' ⟨rfl,H⟩;obtain⟨d2,I,u⟩:=H.out;have aT:=u.1.size;refine⟨rfl,d2,?_,m.ad u λq g=>⟨by omega,by omega⟩,⟨z,by omega,?_,?_⟩,aa,by omega,a1.kept2 (c0:=aa) u.1 (λq aS bh g=>?_) (λ_ _ g=>g) (av _) (av _),λq bQ bq=>?_⟩
  ·rw[ay (aM f j),jF];exact I
  ·rw[u.1.block q F (by rw[G];decide)];exact A
  ·rw[u.2.1 q F λg=>by omega];exact G
  ·have:=az q (by omega) bh;omega
  ·have:=m.1.size;rw[u.2.1 q (by omega) λg=>by omega];exact az q (by omega) bq
 ·obtain⟨d1,r,m,z,F,A,G⟩:=y;obtain⟨o,v,C⟩:=a9 h m.1 f j;refine⟨⟨o,v,C 0 _ rfl,C 1 _ rfl,C 2 _ rfl,C 3 _ rfl,C 4 _ rfl⟩,λbs an=>?_⟩;obtain⟨f1,f2⟩:=bl _ (aL (ah f j));have aX:i.sends[f]?=some ((n f).1,cn _ (n f).2):=by rw[<-ax,dn,ah f j];rfl
  refine((r.later an).send ⟨ap,a4 _ (aL aX)⟩ (n f).2 ((f2.ug m).up (eA.later d1 an)) f1 (by have:=m.2.2.2.2.2.1;omega) (by have:=m.2.2.2.2.1;omega)).mono ?_;rintro e w' ⟨rfl,H⟩;obtain⟨d2,I,u⟩:=H.out;have Y:=(eA.later d1 an).trans u;have aT:=Y.1.size;refine⟨rfl,d2,?_,(m.up Y).mono (by omega),z,by omega,?_,?_⟩
  ·rw[ay aX,jF];exact I
  ·rw[Y.1.block q F (by rw[G];decide)];exact A
  ·rw[Y.2.1 q F];exact G
 ·obtain⟨d1,r,m,z,F,A,G⟩:=y;refine⟨a7 h m.1 f j,?_⟩;refine(r.link ap (a5 _ (aL (al f j))) (by have:=m.2.2.2.2.2.2;omega)).mono ?_;rintro e w' ⟨rfl,H⟩;obtain⟨d2,I,u⟩:=H.out;have aT:=u.1.size;refine⟨rfl,d2,?_,(m.up u).mono (by omega),z,by omega,?_,?_⟩
  ·rw[ay (al f j),jF];exact I
  ·rw[u.1.block q F (by rw[G];decide)];exact A
  ·rw[u.2.1 q F];exact G
 ·obtain⟨d1,r,m,z,F,A,G⟩:=y;rw[bD (by omega),<-aW]at r;rw[bj];refine⟨λe=>?_,λe=>⟨d1,by rw[if_neg e];exact r,m.mono (by omega)⟩⟩;refine(r.fin ap (by have:=m.2.2.2.2.1;omega)).mono ?_;rintro bt w' ⟨rfl,H⟩;obtain⟨d2,I,u⟩:=H;exact⟨rfl,d2,by rw[if_pos e];exact I,(m.up u).mono (by omega)⟩
end
structure T8 where
 y0:Int
 y1:Int
 y2:aq
 ya:ar
 yl:Nat
 yc:Nat
 f:Int
 sa:ar
 sl:Nat
 sc:Nat
 pa:ar
 pl:Nat
 pc:Nat
 ka:ar
 kl:Nat
 kc:Nat
theorem Qf{w:ag}{q:Nat}{g:Array au}{T:TypeId}{fr:Nat×Nat}(h:w.heap[q]?=some (.cells g T fr))(j:g.size=8)(v0 v1 v2 v3 c d e f:au):((((((((w.setCell ⟨q,0,none⟩ v0).setCell ⟨q,1,none⟩ v1).setCell ⟨q,2,none⟩ v2).setCell ⟨q,3,none⟩ v3).setCell ⟨q,4,none⟩ c).setCell ⟨q,5,none⟩ d).setCell ⟨q,6,none⟩ e).setCell ⟨q,7,none⟩ f).heap[q]?=some (.cells #[v0,v1,v2,v3,c,d,e,f] T fr)/\bE (λb=>b=q) w ((((((((w.setCell ⟨q,0,none⟩ v0).setCell ⟨q,1,none⟩ v1).setCell ⟨q,2,none⟩ v2).setCell ⟨q,3,none⟩ v3).setCell ⟨q,4,none⟩ c).setCell ⟨q,5,none⟩ d).setCell ⟨q,6,none⟩ e).setCell ⟨q,7,none⟩ f):=by
 refine⟨?_,(((((((bN w q 0 v0).trans (bN _ q 1 v1) λ_ _ a=>a).trans (bN _ q 2 v2) λ_ _ a=>a).trans (bN _ q 3 v3) λ_ _ a=>a).trans (bN _ q 4 c) λ_ _ a=>a).trans (bN _ q 5 d) λ_ _ a=>a).trans (bN _ q 6 e) λ_ _ a=>a).trans (bN _ q 7 f) λ_ _ a=>a⟩;obtain⟨l⟩:=g;have i:l.length=8:=by simpa using j
 match l,i with
 | [a0,a1,a2,a3,a4,a5,a6,a7],_=>simp[World.setCell,bT,h]
def OT(e:T8->Int->ag->bt)(w:ag)(q:Nat)(t:T8)(g:Int)(d:ag):Prop:=
 ∃a c,am w a/\e t g a c/\(w.heap.size<=q/\(q<a.heap.size\/c.heap.size<=q))/\d.heap[q]?=some (.cells #[ab t.y0,ab t.y1,af t.y2,ae t.ya t.yl t.yc,ab t.f,ae t.sa t.sl t.sc,ae t.pa t.pl t.pc,ae t.ka t.kl t.kc] 117)/\bE (λb=>b=q) c d
theorem yR(g:Nat)(Z:da)(a S Y:Int)(N:ar)(P O:Nat)(aa:au)(F:Bool)(w:ag)(E:T8->Int->ag->bt)(M:Nat->T8->bt)(C:Nat->T8->au->Bool->bt)(R:Int->bt)(aY:IntKind.i64.wrap (S+1)=Y)(a4:g<w.heap.size)(ad:Hid (ai w g 0 (ae N P O)/\ai w g 2 (ab S)/\ai w g 3 (.map Z)))(ax:(Instr.lookup 67 (.map Z) (ab a) true).run Tryz.prog w=.ok (.tuple #[aa,.bool F]) w)(J:Hid (F=false->R 4 w))(L:Hid (F=true->∀W,am w W->ao 45 #[aa,ae N P O,ab a,ab Y] W λe w'=>∃(t:T8)(h:Int),e=.returned (.tuple #[.agg #[ab t.y0,ab t.y1,af t.y2,ae t.ya t.yl t.yc,ab t.f,ae t.sa t.sl t.sc,ae t.pa t.pl t.pc,ae t.ka t.kl t.kc],ab h])/\Hid (E t h W w'/\(∀q,w.heap.size<=q->q<W.heap.size->w'.heap[q]?=W.heap[q]?)/\W.heap.size<=w'.heap.size/\(ai w' g 0 (ae N P O)/\ai w' g 2 (ab S)))))(HB:Hid (∀q t h W,OT E w q t h W->h≠0->R h W))(B:Hid (∀q t W,OT E w q t 0 W->ao 46 #[aH g,af ⟨#[116,97,107,101]⟩,ab a,ab 0,.agg #[ab t.y0,ab t.y1,af t.y2,ae t.ya t.yl t.yc]] W λe w'=>e=.returned (.tuple #[])/\Hid (M q t w')))(x:Hid (∀q t W,M q t W->ao 47 #[aH g,ae t.pa t.pl t.pc] W λe w'=>∃v b,e=.returned (.tuple #[v,.bool b])/\Hid (C q t v b w')))(y:Hid (∀q t W,M q t W->W.heap[q]?=some (.cells #[ab t.y0,ab t.y1,af t.y2,ae t.ya t.yl t.yc,ab t.f,ae t.sa t.sl t.sc,ae t.pa t.pl t.pc,ae t.ka t.kl t.kc] 117)))(z:Hid (∀q t v b W,C q t v b W->W.heap[q]?=some (.cells #[ab t.y0,ab t.y1,af t.y2,ae t.ya t.yl t.yc,ab t.f,ae t.sa t.sl t.sc,ae t.pa t.pl t.pc,ae t.ka t.kl t.kc] 117)))(m:Hid (∀q t v b W,C q t v b W->(t.f=2\/t.f=3)->ao 48 #[aH g,ab a,ab t.f] W λe w'=>e=.returned (.tuple #[])/\Hid (R 0 w')))(n:Hid (∀q t v W,C q t v false W->¬(t.f=2\/t.f=3)->ao 48 #[aH g,ab a,ab 2] W λe w'=>e=.returned (.tuple #[])/\Hid (R 0 w')))(p:Hid (∀q t v W,C q t v true W->¬(t.f=2\/t.f=3)->ao 49 #[aH g,ab a,.agg #[ab t.y0,ab t.y1,af t.y2,ae t.ya t.yl t.yc,ab t.f,ae t.sa t.sl t.sc,ae t.pa t.pl t.pc,ae t.ka t.kl t.kc],v] W λe w'=>e=.returned (.tuple #[])/\Hid (R 0 w'))):ao 24 #[aH g,ab a] w λe w'=>∃v,e=.returned (ab v)/\Hid (R v w'):=by
 obtain⟨an,aq,aw⟩:=ad;go_enter func24,ntmps24;go_upto_region 2 with fail;cases F
 ·have K:=ap (J rfl);clear L J HB B x y z m n p;go_wp2_with fail
  go_ret
  exact⟨4,rfl,K⟩
 have V:=ap (L rfl);clear L J ax aw;have H:Hid (am w w.drew):=(aA _ _).drew;have I:Hid (∀o,am w (w.drew.alloc o)):=λo=>(aA _ _).drew.alloc (av _) o;have aZ:¬(w.heap.size=g):=by omega
 have a0:¬(g=w.heap.size):=by omega
 go_upto_region 4 with fail;go_cut [7,8] (λay az aC=>∃(q:Nat)(t:T8)(h:Int),ay=aH q/\az=ab h/\Hid (OT E w q t h aC))
 case first=>
  clear HB B x y z m n p
  go_region_with ((first
   | (go_at_call 45;refine(V _ (by first|exact H|exact I _)).mono ?_;rintro e c ⟨t,h,rfl,r⟩;have a3:g<c.heap.size:=(by have:=r.2.2.1;simp at this;omega);have a1:¬(c.heap.size=g):=(by omega);have a2:¬(g=c.heap.size):=(by omega);obtain⟨a6,a7⟩:=r.out.2.2.2;(first|(have d:c.heap[w.heap.size]?=some (.cells #[ab 0,ab 0,af ⟨#[]⟩,ae none 0 0,ab 0,ae none 0 0,ae none 0 0,ae none 0 0] 117):=((r.2.1 w.heap.size (av _) (by simp)).trans (aD w.drew _));obtain⟨a8,a9,ba,bb,bc,bd,be,bf⟩:ai c w.heap.size 0 (ab 0)/\ai c w.heap.size 1 (ab 0)/\ai c w.heap.size 2 (af ⟨#[]⟩)/\ai c w.heap.size 3 (ae none 0 0)/\ai c w.heap.size 4 (ab 0)/\ai c w.heap.size 5 (ae none 0 0)/\ai c w.heap.size 6 (ae none 0 0)/\ai c w.heap.size 7 (ae none 0 0):=⟨ah d 0,ah d 1,ah d 2,ah d 3,ah d 4,ah d 5,ah d 6,ah d 7⟩;have aE:c.frozen? ⟨w.heap.size,0,none⟩=false:=(by simp[World.frozen?,d]);have aF:c.frozen? ⟨w.heap.size,1,none⟩=false:=(by simp[World.frozen?,d]);have aG:c.frozen? ⟨w.heap.size,2,none⟩=false:=(by simp[World.frozen?,d]);have aI:c.frozen? ⟨w.heap.size,3,none⟩=false:=(by simp[World.frozen?,d]);have aJ:c.frozen? ⟨w.heap.size,4,none⟩=false:=(by simp[World.frozen?,d]);have aK:c.frozen? ⟨w.heap.size,5,none⟩=false:=(by simp[World.frozen?,d]);have aL:c.frozen? ⟨w.heap.size,6,none⟩=false:=(by simp[World.frozen?,d]);have aM:c.frozen? ⟨w.heap.size,7,none⟩=false:=(by simp[World.frozen?,d]);have al:=ap d;clear d)|skip))))
  all_goals (go_wp2_with fail;go_meet)
  all_goals (refine⟨_,t,h,rfl,rfl,?_⟩)
  all_goals (first
   | exact⟨_,c,H,r.1,⟨by have:=r.2.2.1;simpa using this,ak (av _)⟩,aD _ _,aR (aS _ _) _⟩
   | exact⟨_,c,I _,r.1,⟨av _,aj (by simp)⟩,Qf al rfl _ _ _ _ _ _ _ _⟩)
 case rest=>
 obtain⟨q,t,h,rfl,rfl,A⟩:=hcut;clear V H I an aq;by_cases Q:h=0;rotate_left
 ·have K:=ap (HB _ _ _ _ A Q);have a5:(h==0)=false:=by simpa using Q
  clear A HB B x y z m n p;go_wp2_with fail
  go_ret
  exact⟨h,rfl,K⟩
 subst Q;have X:=ap (B _ _ _ A);obtain⟨_,_,_,_,_,D,_⟩:=A.out;have d0:ai wc q 0 (ab t.y0):=ah D 0;have d1:ai wc q 1 (ab t.y1):=ah D 1;have d2:ai wc q 2 (af t.y2):=ah D 2;have d3:ai wc q 3 (ae t.ya t.yl t.yc):=ah D 3;clear D A HB B;go_wp2_with fail;refine X.mono ?_;rintro e aB ⟨rfl,G⟩;have U:=ap (x _ _ _ G);have d6:ai aB q 6 (ae t.pa t.pl t.pc):=ah (y _ _ _ G) 6;clear X x y G d0 d1 d2 d3;go_wp2_with fail;refine U.mono ?_;rintro e j ⟨v,b,rfl,k⟩;have i:=ap (z _ _ _ _ _ k);have f4:ai j q 4 (ab t.f):=ah i 4;clear d6 U z;by_cases u:t.f=2\/t.f=3
 ·have s:=ap (m _ _ _ _ _ k u);clear n p m k i;generalize t.f=f at*;rcases u with rfl|rfl
  ·go_wp2_with fail;refine s.mono ?_;rintro e T ⟨rfl,l⟩;go_wp2_with fail
   go_ret
   exact⟨0,rfl,l⟩
  ·go_wp2_with fail;refine s.mono ?_;rintro e T ⟨rfl,l⟩;go_wp2_with fail
   go_ret
   exact⟨0,rfl,l⟩
 have aW:(t.f==2)=false:=by simpa using λe=>u (aj e)
 have aX:(t.f==3)=false:=by simpa using λe=>u (ak e)
 cases b
 ·have s:=ap (n _ _ _ _ k u);clear n p m k i;go_wp2_with fail;refine s.mono ?_;rintro e T ⟨rfl,l⟩;go_wp2_with fail
  go_ret
  exact⟨0,rfl,l⟩
 ·have s:=ap (p _ _ _ _ k u);have aN:ai j q 0 (ab t.y0):=ah i 0;have aO:ai j q 1 (ab t.y1):=ah i 1;have aP:ai j q 2 (af t.y2):=ah i 2;have aQ:ai j q 3 (ae t.ya t.yl t.yc):=ah i 3;have aT:ai j q 5 (ae t.sa t.sl t.sc):=ah i 5;have aU:ai j q 6 (ae t.pa t.pl t.pc):=ah i 6;have aV:ai j q 7 (ae t.ka t.kl t.kc):=ah i 7;clear n p m k i;go_wp2_with fail;refine s.mono ?_;rintro e T ⟨rfl,l⟩;go_wp2_with fail
  go_ret
  exact⟨0,rfl,l⟩
def GB(f:Tk)(t:T8)(d:gE)(W:ag):Prop:=
 ∃(h g:Nat)(c:List (Int×Tm (h+1)))(e:List (Int×aq×Tm (h+1))),(c.length=t.sl/\e.length=t.pl/\f.links.length=t.kl)/\W.ownsRow g 177 5 (ae t.sa t.sl t.sc) t.sl (c.flatMap λa=>Ov a.1 a.2)/\W.ownsRow g 174 6 (ae t.pa t.pl t.pc) t.pl (e.flatMap λa=>Pw a.1 a.2.1 a.2.2)/\W.ownsRow g 3 1 (ae t.ka t.kl t.kc) t.kl (f.links.map λi=>ab i)/\
  c.map (λa=>(a.1,cn _ a.2))=f.sends/\e.map (λa=>(a.1,a.2.1,cn _ a.2.2))=f.spawns/\(∀a∈c,bJ _ a.2=0/\Gv d W a.2)/\(∀a∈e,bJ _ a.2.2=0/\Gv d W a.2.2)/\∀b,((Value.slice t.sa t.sl t.sc).ownBlock=some b\/(Value.slice t.pa t.pl t.pc).ownBlock=some b\/(Value.slice t.ka t.kl t.kc).ownBlock=some b)->b<W.heap.size/\0<=d.ow b
theorem GB.kee{n:Tk}{t:T8}{d h:gE}{W g:ag}(r:GB n t d W)(b:bE (λq=>d.ow q<0) W g)(m:∀q,q<W.heap.size->h.ow q=d.ow q):GB n t h g:=by
 obtain⟨o,p,A,B,e,s,u,v,w,y,k,l,f⟩:=r;have hF:∀{z:Nat}{x:Tm z},Gv d W x->Gv h g x:=λj=>by
  have e:=eJ b (D:=λq=>0<=d.ow q/\q<W.heap.size) (λq a C=>by omega) ⟨j.1,In.offB j.2 j.1⟩;exact⟨e.1,e.2.mono λq a=>by rw[m q a.2];exact a.1⟩
 have i:∀q,((Value.slice t.sa t.sl t.sc).ownBlock=some q\/(Value.slice t.pa t.pl t.pc).ownBlock=some q\/(Value.slice t.ka t.kl t.kc).ownBlock=some q)->¬d.ow q<0:=λq a=>by have:=(f q a).2;omega
 exact⟨o,p,A,B,e,bB s b λq a=>i q (aj a),bB u b λq a=>i q (ak (aj a)),bB v b λq a=>i q (ak (ak a)),w,y,λa c=>⟨(k a c).1,hF (k a c).2⟩,λa c=>⟨(l a c).1,hF (l a c).2⟩,λq a=>⟨aW (f q a).1 b.size,by rw[m q (f q a).1];exact(f q a).2⟩⟩
def Q9(t:T8):Obj:=.cells #[ab t.y0,ab t.y1,af t.y2,ae t.ya t.yl t.yc,ab t.f,ae t.sa t.sl t.sc,ae t.pa t.pl t.pc,ae t.ka t.kl t.kc] 117
section
variable {p:lG} {s:Sy} {d:gE} {w:ag}
theorem gG.ug{M:aO}{k b c:Nat}{d1 d2:gE}{w1 w2:ag}(l:gG k c d d1 w w1)(g:qA M b d1 d2 w1 w2)(m:∀q,M q->w.heap.size<=q):gG (k+b) c d d2 w w2:=by
 obtain⟨e,f,t,u,v,x⟩:=l;obtain⟨i,j,_,o,p,r,s⟩:=g;have y:=e.size;exact⟨e.trans i λq a h=>by rw[f q a]at h;omega,λq a=>(j q (by omega) λn=>by have:=m q n;omega).trans (f q a),by omega,by omega,by omega,by omega⟩
def PY(p:lG)(s:Sy)(d:gE)(w:ag)(a:Tk)(q:Nat)(t:T8)(d1:gE)(W:ag):Prop:=
 bC p s d1 W/\gG 1 402 d d1 w W/\(w.heap.size<=q/\q<W.heap.size/\d1.ow q=0/\W.heap[q]?=some (Q9 t))/\t.f=a.fate/\GB a t d1 W
theorem bC.run(q:bC p s d w){a:Int}(aS:dN a)(cq:d.k<=46000)(cm:d.es.length<=96000)(cw:d.wn<=800000)(cp:d.bn<=800000):ao 24 #[aH p.b,ab a] w λe w'=>∃v,e=.returned (ab v)/\Hid (v=(s.run p.n p.prog p.room a).2/\∃F,bC p (s.run p.n p.prog p.room a).1 F w'/\gG 201 402 d F w w'):=by
 obtain⟨bO,aX⟩:=q.lo;obtain⟨a8,ci,a9,ba⟩:=q.cells;obtain⟨_,_,_,ck,cl,_⟩:=q.keys;have bg:kT (p.n+1) p.prog=true:=(fJ q.pg.2.2.2.1).1;have be:IntKind.i64.wrap (s.last+1)=s.last+1:=by rw[IntKind.wrap];simp[IntKind.bits,IntKind.signed];omega
 have af:=q.look a true;have ay:=q.alive a;rw[if_pos rfl]at af;obtain⟨Q,m⟩:∃Q,Q=s.run p.n p.prog p.room a:=⟨_,rfl⟩;rw[<-m];unfold Sy.run at m;cases hg:s.get a with
 | none=>
  rw[hg]at m ay;rw[ay]at af;have bx:(4:Int)=Q.2/\∃F,bC p Q.1 F w/\gG 201 402 d F w w:=by
   rw[m];exact⟨rfl,d,q,(eA.later d (aA _ _)).un.mono (aM _) (aM _)⟩
  exact yR p.b d.po a s.last (s.last+1) p.pa p.prog.length p.pc _ false w (λ_ _ _ _=>False) (λ_ _ _=>False) (λ_ _ _ _ _=>False) (λv w'=>v=Q.2/\∃F,bC p Q.1 F w'/\gG 201 402 d F w w') be aX ⟨a8,a9,ba⟩ af (λ_=>bx) ((λg=>by cases g)) (λ_ _ _ _ ⟨_,_,_,g,_⟩=>g.elim) (λ_ _ _ ⟨_,_,_,g,_⟩=>g.elim) (λ_ _ _ g=>g.elim) (λ_ _ _ g=>g.elim) (λ_ _ _ _ _ g=>g.elim) (λ_ _ _ _ _ g=>g.elim) (λ_ _ _ _ g=>g.elim) λ_ _ _ _ g=>g.elim
 | some x=>
  obtain⟨C,ad,W⟩:=x;rw[hg]at m ay;obtain⟨bs,aC⟩:=gw.1 ay;rw[aC]at af;obtain⟨b6,bF,bD,ar,bH,cj⟩:=q.ps a bs aC;rw[hg]at ar;obtain⟨rfl,rfl,rfl⟩:C=b6/\ad=bF/\W=bD:=by
   injection ar with ar;injection ar with A u;injection u with u bG;exact⟨A,u,bG⟩
  have co:=(q.key aC).1;obtain⟨U,aQ⟩:∃U,U=sy p.n p.room p.prog C a (s.last+1) ad W:=⟨_,rfl⟩;simp only[<-aQ]at m;have aB:∀h,w.heap.size<=h->d.ow h=0:=λh aU=>by
   by_cases g:d.ow h=0
   ·exact g
   ·have:=(q.low h g).2;omega
  refine yR p.b d.po a s.last (s.last+1) p.pa p.prog.length p.pc _ true w
   (λt aa l w'=>(aa≠0/\aa=U/\am l w')\/(aa=0/\U=0/\∃(r:Tc)(i:Tk)(K:Nat),(r.1=(t.y0,t.y1,t.y2)/\r.2.1=(t.ya,t.yc)/\r.2.2.length=t.yl)/\od p.room p.prog C a (s.last+1) ad W=some i/\t.f=i.fate/\cn 13 r=i.message/\bJ 13 r=0/\In w'.heap.size w' 13 r/\cD (λh=>l.heap.size<=h/\h<K) 13 r/\ch (λh=>d.ow h=a) l w'/\l.heap.size<K/\P1 p.lo bs C p.room i.state i.mail (d.k+201+402) (λb=>(d.ow b=a\/K<=b)/\b<w'.heap.size) w'/\i.mail.length<=W.length/\mG (l.heap.size+1) i.sends i.spawns i.links t.sa t.sl t.sc t.pa t.pl t.pc t.ka t.kl t.kc (λ_=>True) w'))
   (λh t l=>∃i d1,U=0/\od p.room p.prog C a (s.last+1) ad W=some i/\PY p ((s.put a (C,i.state,i.mail)).tell lJ a 0 i.message) d w i h t d1 l)
   (λh t v b l=>∃i d1,U=0/\od p.room p.prog C a (s.last+1) ad W=some i/\PY p ((s.put a (C,i.state,i.mail)).tell lJ a 0 i.message) d w i h t d1 l/\b=Sy.made p.n p.prog p.room ((s.put a (C,i.state,i.mail)).tell lJ a 0 i.message) i.spawns/\(b=true->∃V aN aO c,v=ae aN t.pl aO/\V.length=t.pl/\w.heap.size<=c/\(∀h,c<=h->d1.ow h=0)/\l.ownsRow c 65 1 v t.pl (V.map AX)/\mO p.lo p.room (d1.k+201) (λh=>v.ownBlock=some h) l.heap.size l i.spawns V c))
   (λv w'=>v=Q.2/\∃F,bC p Q.1 F w'/\gG 201 402 d F w w') be aX ⟨a8,a9,ba⟩ (by rw[af];rfl) ((λg=>by cases g)) (λ_ l ax=>?_) (λh t aa l aP bm=>?_) (λh t l aP=>?_) (λh t l G=>?_) (λh t l G=>?_) (λh t v b l G=>?_) (λh t v b l G O=>?_) (λh t v l G O=>?_) λh t v l G O=>?_
  ·have X:=q.later ax;have K:=cU (eD (p.n+1)) 2 (p7 (p.n+1)) p.pa;refine((bH.later ax).step p.prog p.pa p.pc l.heap.size X.pg.1.1 (av _) q.pg.2.1 q.pg.2.2.1 (λ_=>q.pg.2.2.2.2) (λbz aw=>K.2.2.1 _ _ _ bz _ (λb h=>aw.block b h.2 λg=>by have:=h.1;rw[g]at this;omega) (K.2.1 _ _ _ _ X.pg.1.2 X.pg.1.1) X.pg.1.1) (aF bO ax.size) (by omega) (by omega) a (s.last+1)).mono ?_;rintro e w' (⟨aa,rfl,z⟩|⟨r,f,sa,sl,sc,pa,pl,pc,ka,kl,kc,rfl,z⟩)
   ·obtain⟨L,S,H⟩:=z.out;have bc:=(X.later H).cells;exact⟨⟨0,0,⟨#[]⟩,none,0,0,0,none,0,0,none,0,0,none,0,0⟩,aa,rfl,aj ⟨L,S.trans aQ.symm,H⟩,λh _ aU=>H.block h aU,H.size,bc.1,bc.2.2.1⟩
   ·obtain⟨i,K,L,S,H,ai,M,bV,bW,aG,bX,bU⟩:=z.out;have bb:w'.heap[p.b]?=some (.cells (eF p s d) 74):=(aG.block p.b (aW aX ax.size) (by rw[q.own];omega)).trans X.box;exact⟨⟨r.1.1,r.1.2.1,r.1.2.2,r.2.1.1,r.2.2.length,r.2.1.2,f,sa,sl,sc,pa,pl,pc,ka,kl,kc⟩,0,rfl,ak ⟨rfl,aQ.trans L,r,i,K,⟨rfl,rfl,rfl⟩,S,H,ai,M,bV,bW,aG,bX,bU⟩,λh au bI=>aG.block h bI (by rw[aB h au];omega),aG.size,ah bb 0,ah bb 2⟩
  ·obtain⟨R,ap,L,S,H,ai,M⟩:=aP;rcases S with⟨_,e,bY⟩|⟨e,_⟩
   ·rw[if_neg (by rw[<-e];exact bm)]at m;have aw:bE (λb=>b=h) w l:=((aR L λb=>b=h).trans (aR bY λb=>b=h) λ_ _ e=>e).trans M λ_ _ e=>e;rw[m];exact⟨e,d,q.kept aw λb g=>by rw[g];exact aB h H.1,aw.mono λb az g=>by omega,λ_ _=>rfl,by omega,by omega,by omega,by omega⟩
   ·exact absurd e bm
  ·obtain⟨R,ap,L,S,H,ai,M⟩:=aP;rcases S with⟨e,_⟩|⟨_,bK,r,i,K,⟨f1,f2,f3⟩,bZ,b1,b2,b3,bo,b4,Z,cy,bp,cx,b0⟩
   ·exact absurd rfl e
   have bN:bE (λh=>d.ow h=a) R ap:=⟨Z.os,Z.tape,Z.output,Z.size,Z.block⟩;have cs:=L.size;have ct:=Z.size;have cu:=M.size
   obtain⟨bt,bu⟩:=(q.later L).turnP aC hg bN (j:=d.k+402) (λh g=>by
    rcases g.1 with g|g
    ·exact aj g
    ·exact ak (by omega)) (by omega) (bp.mono (λ_ g=>g) (by omega) (P1.lie2 bp)) (by omega)
   generalize aT:({d with ow:=Ge d R ap a,k:=d.k+402}:gE)=d1 at bt bu;have bf:∀b,d1.ow b=if R.heap.size<=b/\b<ap.heap.size then a else d.ow b:=λb=>by rw[<-aT];rfl
   have aV:d1.ow h=0:=by
    rw[bf,if_neg (by omega)];exact aB h H.1
   have bh:∀b,R.heap.size<=b->0<=d1.ow b:=λb az=>by
    rw[bf];split
    ·omega
    ·rw[aB b (by omega)];exact jD 0
   have au:bC p (s.put a (C,i.state,i.mail)) d1 l:=bt.kept M λb g=>by rw[g];exact aV
   have bS:gG 0 402 d d1 w l:=by
    have A:=((eA.later d L).un.trans bu);obtain⟨b9,ca,cb,cc,cd,ce⟩:=A;exact⟨b9.trans M λb az g=>by omega,ca,by rw[<-aT]at cb ⊢;show d.k+402<=_;omega,cc,cd,ce⟩
   have bT:=eJ M (D:=λb=>R.heap.size<=b/\b<ap.heap.size) (λb g cg=>by omega) ⟨bo,In.offB (b4.mono λb g=>g.1) bo⟩;have bL:GB i t d1 l:=by
    obtain⟨aq,aK,aL,B,o,y,I,T,P,al,a5,b5⟩:=b0.kept M λb cf _ cA cB=>by omega
    have bd:∀{a4:Nat}{x:Tm a4},In l.heap.size l a4 x->cD (λb=>R.heap.size+1<=b/\True) a4 x->Gv d1 l x:=λbA bB=>⟨bA,bB.mono λb g=>bh b (by omega)⟩;refine⟨aq,_,aK,aL,B,o,y,I,T,P,λg J=>⟨(al g J).1,bd (al g J).2.1 (al g J).2.2⟩,λg J=>⟨(a5 g J).1,bd (a5 g J).2.1 (a5 g J).2.2⟩,λb g=>⟨?_,bh b (by have:=(b5 b g).1;omega)⟩⟩;rcases g with g|g|g
    ·exact(o.lt b g).2
    ·exact(y.lt b g).2
    ·exact(I.lt b g).2
   obtain⟨⟨cz,cf,cg⟩,⟨cC,cE⟩,cF⟩:=r;simp only[eH]at f1 f2;obtain⟨rfl,rfl,rfl⟩:=f1;obtain⟨rfl,rfl⟩:=f2;rw[<-f3];have bM:d1.es=d.es:=by rw[<-aT]
   refine(au.tell lJ a 0 _ _ _ _ _ _ _ (kO bT.1 b3) (by rw[bM];omega)).mono ?_;rintro e w' ⟨rfl,z⟩;obtain⟨d2,N,E⟩:=z.out.up au;have bi:=(aI.1 ai).1;have cv:=E.1.size;rw[b2]at N;refine⟨rfl,i,d2,bK,bZ,N,(bS.trans E.un).mono (by omega) (by omega),⟨H.1,by omega,by rw[E.2.1 h bi];exact aV,?_⟩,b1,bL.kee E.1 E.2.1⟩;rw[E.1.block h bi (by rw[aV];decide)];exact ai
  ·obtain⟨i,d1,A,u,⟨B,o,y,I,T⟩⟩:=G;obtain⟨aq,a7,aK,aL,Y,aZ,a0,a1,a2,ag,a3,aD,aE⟩:=T;have aY:=LQ bg u;have cr:t.pl<=8:=by
    have:=aY.1.2.1;rw[<-ag,dS]at this;omega
   refine(B.made a0 Y.2.1 (by omega) λg J=>⟨(aD g J).1,(aD g J).2.1⟩).mono ?_;rintro e w' ⟨v,b,rfl,z⟩;obtain⟨an,bq,br⟩:=z.out;rw[ag]at bq br;have bQ:∀h,l.heap.size<=h->d1.ow h=0:=λh aU=>by
    by_cases g:d1.ow h=0
    ·exact g
    ·have:=(B.low h g).2;omega
   refine⟨v,b,rfl,i,d1,A,u,⟨B.later an,(o.trans (eA.later d1 an).un).mono (av _) (av _),⟨y.1,aW y.2.1 an.size,y.2.2.1,dv an y.2.2.2⟩,I,GB.kee ⟨aq,a7,aK,aL,Y,aZ,a0,a1,a2,ag,a3,aD,aE⟩ (aR an _) λ_ _=>rfl⟩,bq,λaz=>?_⟩;obtain⟨V,aN,aO,b7,a6,bv,aJ⟩:=br az;exact⟨V,aN,aO,l.heap.size,b7,a6,o.1.size,bQ,bv,aJ⟩
  ·obtain⟨i,d1,A,u,B,o,y,_⟩:=G;exact y.2.2.2
  ·obtain⟨i,d1,A,u,⟨B,o,y,_⟩,_⟩:=G;exact y.2.2.2
  ·obtain⟨i,d1,A,u,⟨B,o,y,I,T⟩,_⟩:=G;rw[if_pos A,u]at m;simp only at m;rw[I]at O ⊢;rw[if_pos O]at m;refine(B.fin aS (by have:=o.2.2.2.1;omega)).mono ?_;rintro e w' ⟨rfl,z⟩;obtain⟨d2,N,E⟩:=z.out;rw[m];exact⟨rfl,rfl,d2,N,(o.trans E.un).mono (by omega) (by omega)⟩
  ·obtain⟨i,d1,A,u,⟨B,o,y,I,T⟩,P,_⟩:=G;rw[if_pos A,u]at m;simp only at m;rw[I]at O;rw[if_neg O,if_pos P.symm]at m;have bj:=congrArg Prod.fst m;have bk:=congrArg Prod.snd m;dsimp only at bj bk;refine(B.fin (how:=2) aS (by have:=o.2.2.2.1;omega)).mono ?_;rintro e w' ⟨rfl,z⟩;obtain⟨d2,N,E⟩:=z.out;rw[<-bj]at N;exact⟨rfl,bk.symm,d2,N,(o.trans E.un).mono (by omega) (by omega)⟩
  ·obtain⟨i,d1,A,u,⟨B,o,y,I,T⟩,P,al⟩:=G;rw[if_pos A,u]at m;simp only at m;rw[I]at O;have bR:¬Sy.made p.n p.prog p.room ((s.put a (C,i.state,i.mail)).tell lJ a 0 i.message) i.spawns=false:=λg=>Bool.noConfusion (P.trans g);rw[if_neg O,if_neg bR]at m;obtain⟨V,aN,aO,c,rfl,a6,bv,aJ,bw,b8⟩:=al rfl;obtain⟨aq,a7,aK,aL,Y,aZ,a0,a1,a2,ag,a3,aD,aE⟩:=T;have aY:=LQ bg u;have bl:i.spawns.length=t.pl:=by rw[<-ag,dS];exact Y.2.1
   have bP:Sy.may ((s.put a (C,i.state,i.mail)).tell lJ a 0 i.message) t.pl=true:=by
    unfold Sy.made at P;rw[bl]at P;exact(Bool.and_eq_true_iff.1 P.symm).1
   have hF:=B.follow (pa:=t.pa) (pl:=t.pl) (pc:=t.pc) aS i aY t.y0 t.y1 t.y2 t.ya t.yl t.yc aZ a1 bw ⟨Y.1,Y.2.2,a6,bl⟩ a2 a3 (λb g=>?_) b8 (av _) (λh g _=>aJ h g) bP (by have:=o.2.2.1;omega) (by have:=o.2.2.2.1;omega) (by have:=o.2.2.2.2.1;omega) (by have:=o.2.2.2.2.2;omega)
   ·rw[<-I]at hF;refine hF.mono ?_;rintro e w' ⟨rfl,z⟩;obtain⟨d2,N,E⟩:=z;rw[m];exact⟨rfl,rfl,d2,N,o.ug E λh g=>by omega⟩
   ·rcases g with g|g|g
    ·exact(aE b (aj g)).2
    ·exact(aE b (ak (ak g))).2
    ·rw[aJ b (bw.lt b g).1];exact jD 0
end
theorem LD(o:Nat)(kd a b p q:Int)(r:aq)(xa:ar)(s xc:Nat)(w:ag)(R:Int->bt)(l:Hid (kd=1->∀W,am w W->ao 24 #[aH o,ab a] W λe w'=>∃v,e=.returned (ab v)/\Hid (R v w')))(h:Hid (kd=2->∀W,am w W->ao 25 #[aH o,ab a,ab b] W λe w'=>∃v,e=.returned (ab v)/\Hid (R v w')))(k:Hid (kd=3->∀W,am w W->ao 26 #[aH o,ab a,.agg #[ab p,ab q,af r,ae xa s xc]] W λe w'=>∃v,e=.returned (ab v)/\Hid (R v w')))(j:Hid (¬(kd=1\/kd=2\/kd=3)->∀W,am w W->R 1 W)):ao 8 #[aH o,.agg #[ab kd,ab a,ab b,ab p,ab q,af r,ae xa s xc]] w λe w'=>∃v,e=.returned (ab v)/\Hid (R v w'):=by
 go_enter func8,ntmps8;go_upto_region 1 with fail;generalize u:w.alloc _=c;have HB:Hid (am w c):=by
  rw[<-u];exact aS _ _
 have d:c.heap[w.heap.size]?=some (.cells #[ab kd,ab a,ab b,ab p,ab q,af r,ae xa s xc] 33):=by
  rw[<-u];exact aD _ _
 generalize w.heap.size=f at*;clear u;have d0:ai c f 0 (ab kd):=ah d 0;have d1:ai c f 1 (ab a):=ah d 1;have d2:ai c f 2 (ab b):=ah d 2;have d3:ai c f 3 (ab p):=ah d 3;have d4:ai c f 4 (ab q):=ah d 4;have d5:ai c f 5 (af r):=ah d 5;have d6:ai c f 6 (ae xa s xc):=ah d 6;clear d;by_cases m:kd=1
 ·have i:=ap (l m _ HB);subst m;clear l h k j;go_wp2_with fail;refine i.mono ?_;rintro e y ⟨v,rfl,g⟩;go_wp2_with fail
  go_ret
  exact⟨v,rfl,g⟩
 have x:(kd==1)=false:=by simpa using m
 by_cases n:kd=2
 ·have i:=ap (h n _ HB);subst n;clear l h k j m x;go_wp2_with fail;refine i.mono ?_;rintro e y ⟨v,rfl,g⟩;go_wp2_with fail
  go_ret
  exact⟨v,rfl,g⟩
 have A:(kd==2)=false:=by simpa using n
 by_cases t:kd=3
 ·have i:=ap (k t _ HB);subst t;clear l h k j m x n A;go_wp2_with fail;refine i.mono ?_;rintro e y ⟨v,rfl,g⟩;go_wp2_with fail
  go_ret
  exact⟨v,rfl,g⟩
 have B:(kd==3)=false:=by simpa using t
 have z:=ap (j (by omega) _ HB);clear l h k j;go_wp2_with fail
 go_ret
 exact⟨1,rfl,z⟩
section
variable {p:lG} {s:Sy} {d:gE} {w:ag}
theorem bC.do(o:bC p s d w){kd a b:Int}(u:I2 (a,b)){m:Nat}(x:Tm (m+1))(y:In w.heap.size w (m+1) x/\cD (λq=>¬1<=d.ow q) (m+1) x)(A:(aC (m+1) x).length<=2097152)(C:d.k<=46000)(z:d.es.length<=96000)(D:d.wn<=800000)(B:d.bn<=800000):ao 8 #[aH p.b,.agg #[ab kd,ab a,ab b,ab x.1.1,ab x.1.2.1,af x.1.2.2,ae x.2.1.1 x.2.2.length x.2.1.2]] w λe w'=>∃v,e=.returned (ab v)/\Hid (v=(s.do p.n p.prog p.room kd a b (m+1) x).2/\∃f,bC p (s.do p.n p.prog p.room kd a b (m+1) x).1 f w'/\gG 201 402 d f w w'):=by
 obtain⟨r,g⟩:∃r,r=s.do p.n p.prog p.room kd a b (m+1) x:=⟨_,rfl⟩;rw[<-g];unfold Sy.do at g;refine LD p.b kd a b x.1.1 x.1.2.1 x.1.2.2 x.2.1.1 x.2.2.length x.2.1.2 w (λv w'=>v=r.2/\∃f,bC p r.1 f w'/\gG 201 402 d f w w') (λe t c=>?_) (λe t c=>?_) (λe t c=>?_) λe t c=>?_
 ·rw[if_pos e]at g;refine((o.later c).run u.1 C z D B).mono ?_;rintro e w' ⟨v,rfl,h⟩;obtain⟨i,f,j,l⟩:=h.out;rw[g];exact⟨v,rfl,i,f,j,((eA.later d c).un.trans l).mono (by omega) (by omega)⟩
 ·rw[if_neg (by omega),if_pos e]at g;refine((o.later c).arrive u (by omega) (by omega) (by omega)).mono ?_;rintro e w' ⟨v,rfl,h⟩;obtain⟨i,f,j,l⟩:=h.out;rw[g];exact⟨v,rfl,i,f,j,((eA.later d c).un.trans l).mono (by omega) (by omega)⟩
 ·rw[if_neg (by omega),if_neg (by omega),if_pos e]at g;refine((o.later c).inject u.1 x ⟨(y.1.below c).mono c.size,y.2⟩ A (by omega) (by omega)).mono ?_;rintro e w' ⟨v,rfl,h⟩;obtain⟨i,f,j,l⟩:=h;rw[g];exact⟨v,rfl,i,f,j,((eA.later d c).un.trans l).mono (by omega) (by omega)⟩
 ·rw[if_neg (by omega),if_neg (by omega),if_neg (by omega)]at g;rw[g];exact⟨rfl,d,o.later c,(eA.later d c).un.mono (by omega) (by omega)⟩
end
theorem I0(y:ar)(A z:Nat)(room E:Int)(w:ag)(n:Int->Int->aq->ar->Nat->Nat->bt)(r:ar->Nat->Nat->bt)(R:au->Int->bt)(x:Hid (ao 37 #[ae y A z] w λe w'=>∃y0 y1 y2 ya yl yc,e=.returned (.tuple #[.agg #[ab y0,ab y1,af y2,ae ya yl yc],ab E])/\Hid (n y0 y1 y2 ya yl yc w')))(j:Hid (E=0->(0<=room/\room<=1000)->∀y0 y1 y2 ya yl yc W b,n y0 y1 y2 ya yl yc W->am W b->ao 38 #[.agg #[ab y0,ab y1,af y2,ae ya yl yc]] b λe w'=>∃a l c h,e=.returned (.tuple #[ae a l c,ab h])/\Hid (r a l c w')))(g:Hid (∀y0 y1 y2 ya yl yc W b,n y0 y1 y2 ya yl yc W->am W b->(E≠0->R (.pointer none) E b)/\(E=0->¬(0<=room/\room<=1000)->R (.pointer none) 1 b)))(k:Hid (∀a l c W,E=0->(0<=room/\room<=1000)->r a l c W->R (aH W.heap.size) 0 (W.alloc (.cells #[ae a l c,ab room,ab 0,.map none,.map none,.map none,ae none 0 0] 74)))):ao 18 #[ae y A z,ab room] w λe w'=>∃v h,e=.returned (.tuple #[v,ab h])/\Hid (R v h w'):=by
 go_enter func18,ntmps18;go_wp2_with fail;refine x.mono ?_;rintro e i ⟨y0,y1,y2,ya,yl,yc,rfl,d⟩;clear x;have m:Hid (∀o,am i (i.alloc o)):=λo=>aS _ o;by_cases p:E=0;rotate_left
 ·have f:Hid (∀o,R (.pointer none) E (i.alloc o)):=λo=>(g _ _ _ _ _ _ _ _ d (m o)).1 p;have F:(E==0)=false:=by simpa using p
  clear j g k d;go_wp2_with fail;exact ay (v:=.tuple #[.pointer none,ab E]) (by simp[results,results18,go_sem]) rfl ⟨_,_,rfl,f _⟩
 subst p;by_cases q:0<=room/\room<=1000;rotate_left
 ·have f:Hid (∀o,R (.pointer none) 1 (i.alloc o)):=λo=>(g _ _ _ _ _ _ _ _ d (m o)).2 rfl q;clear j g k d;by_cases B:room<0
  ·go_wp2_with fail;exact ay (v:=.tuple #[.pointer none,ab 1]) (by simp[results,results18,go_sem]) rfl ⟨_,_,rfl,f _⟩
  ·have C:1000<room:=by omega
   go_wp2_with fail;exact ay (v:=.tuple #[.pointer none,ab 1]) (by simp[results,results18,go_sem]) rfl ⟨_,_,rfl,f _⟩
 have t:=ap (λb=>j rfl q y0 y1 y2 ya yl yc i b d);have u:=ap (λa l c W=>k a l c W rfl q);have B:¬room<0:=by omega
 have C:¬1000<room:=by omega
 clear j k g d;go_wp2_with fail;refine(t _ (m _)).mono ?_;rintro e D ⟨a,l,c,h,rfl,s⟩;have f:=ap (u _ _ _ _ s);clear t u s;go_wp2_with fail;exact ay (v:=.tuple #[aH D.heap.size,ab 0]) (by simp[results,results18,go_sem]) rfl ⟨_,_,rfl,f⟩
def Mx:Sy:=⟨0,[],λ_=> [],λ_=>false,[]⟩
def mA(n:Nat)(l:List (Bh (n+1)))(room:Int):Int:=if mK n l≠0 then mK n l else if 0<=room/\room<=1000 then 0 else 1
def OU(n:Nat)(l:List (Bh (n+1)))(room:Int)(w:ag)(v:au)(d:Int)(w':ag):Prop:=
 d=mA n l room/\am w w'/\(d≠0->v=.pointer none)/\(d=0->∃(a:lG)(c:gE),v=aH a.b/\bC a Mx c w'/\(c.k=0/\c.es=[]/\c.wn=0/\c.bn=0)/\a.room=room/\a.lo=w.heap.size/\a.n=n+5/\aB (a.n+6) (cm a.n a.prog) (n+6) (cm n l)=true)
theorem CT(n:Nat)(l:List (Bh (n+1)))(y:ar)(q:Nat)(room:Int)(w:ag)(U:gL (n+1) w.heap.size w y l)(V:l.length<=q)(W:q<=maxLen)(F:kT (n+1) l=true->(aC (n+6) (cm n l)).length<=2097152):ao 18 #[ae y l.length q,ab room] w λe w'=>∃v M,e=.returned (.tuple #[v,ab M])/\Hid (OU n l room w v M w'):=by
 refine I0 y l.length q room (mK n l) w (λy0 y1 y2 ya yl yc d=>am w d/\∃f:Tm (n+6),(f.1=(y0,y1,y2)/\f.2.1=(ya,yc)/\f.2.2.length=yl)/\In d.heap.size d (n+6) f/\aB (n+6) f (n+6) (L0 n l)=true)
  (λi h c d=>∃g:List (Bh (n+6)),g.length=h/\(∃A,am w A/\am A d)/\(h<=c/\c<=maxLen)/\gL (n+6) d.heap.size d i g/\ue (kp (n+6) λb=>w.heap.size<=b) (λb=>w.heap.size<=b) i g/\mK (n+5) g=0/\aB (n+11) (cm (n+5) g) (n+6) (cm n l)=true) (OU n l room w) ?_ (λj u y0 y1 y2 ya yl yc d r p o=>?_) (λy0 y1 y2 ya yl yc d r p o=>⟨λj=>?_,λj u=>?_⟩) λi h c d j u hF=>?_
 ·refine(L5 n l y q V W w.heap.size w U (av _) F).mono ?_;rintro e w' ⟨f,rfl,z⟩;obtain⟨O,P,ak,Q⟩:=z.out;exact⟨f.1.1,f.1.2.1,f.1.2.2,f.2.1.1,f.2.2.length,f.2.1.2,rfl,O,f,⟨rfl,rfl,rfl⟩,P,Q⟩
 ·obtain⟨m,f,⟨f1,f2,f3⟩,D,x⟩:=p;obtain⟨⟨ax,ay,az⟩,⟨aA,aE⟩,aF⟩:=f;simp only[eH]at f1 f2;obtain⟨rfl,rfl,rfl⟩:=f1;obtain⟨rfl,rfl⟩:=f2;subst f3;obtain⟨t1,t2,t3⟩:=Jd j x;refine(BO (n+5) (n+6) (av _) _ r.heap.size r ((D.below o).mono o.size) (fD t1) (av _)).mono ?_;rintro e w' ⟨g,i,c,rfl,z⟩;obtain⟨aa,ad,af,ah,ap,ai⟩:=z;obtain⟨a,Y,Z⟩:=ai t2;obtain⟨aq,K,L,au,aw⟩:=t3 a g Y Z;have G:=m.trans (o.mono m.size);have an:=G.size;have h:=cU (eD (n+6)) 2 (p7 (n+6)) i;rw[(fJ K).2.2,(fJ j).2.2]at L;exact⟨i,g.length,c,_,rfl,g,rfl,⟨r,G,aa⟩,ad,af,h.1 _ _ _ (λb a=>by omega) ah,K,L⟩
 ·have m:=p.1.trans (o.mono p.1.size);exact⟨by unfold mA;rw[if_pos j],m,λ_=>rfl,λa=>absurd a j⟩
 ·have m:=p.1.trans (o.mono p.1.size);exact⟨by unfold mA;rw[if_neg (by rw[j];decide),if_neg u],m,λ_=>rfl,(λa=>by cases a)⟩
 ·obtain⟨g,rfl,⟨A,E,N⟩,H,C,I,X,x⟩:=hF;have m:=E.trans (N.mono E.size);have J:=m.size;have s:am d (d.alloc (.cells #[ae i g.length c,ab room,ab 0,.map none,.map none,.map none,ae none 0 0] 74)):=aS _ _;generalize R:d.alloc (.cells #[ae i g.length c,ab room,ab 0,.map none,.map none,.map none,ae none 0 0] 74)=B at s;have t:B.heap[d.heap.size]?=some (.cells #[ae i g.length c,ab room,ab 0,.map none,.map none,.map none,ae none 0 0] 74):=by
   rw[<-R];exact aD _ _
  have al:=(aI.1 t).1;refine⟨by unfold mA;rw[if_neg (by rw[j];decide),if_pos u],m.trans (s.mono m.size),λa=>absurd rfl a,λ_=>⟨⟨w.heap.size,d.heap.size,room,n+5,g,i,c⟩,⟨λb=>if b=d.heap.size then -5 else if w.heap.size<=b/\b<d.heap.size then -4 else 0,none,[],none,0,λ_=> [],λ_=>lZ,none,0,ae none 0 0,[],0⟩,rfl,?_,⟨rfl,rfl,rfl,rfl⟩,rfl,rfl,rfl,x⟩⟩;have h:=cU (eD (n+6)) 2 (p7 (n+6)) i;refine⟨λb a=>?_,t,if_pos rfl,⟨⟨?_,?_⟩,H.1,H.2,X,?_⟩,aj ⟨rfl,rfl⟩,⟨rfl,List.nodup_nil,by simp[Mx],by decide,by decide,by simp[Mx]⟩,?_,⟨⟨J,(qV t).1,aj ⟨rfl,rfl,rfl⟩⟩,?_,λ_=>rfl,λ_=>aM _,?_⟩,⟨⟨J,(qV t).2,aj ⟨rfl,rfl⟩⟩,?_,(λb a=>by cases a)⟩,⟨eZ _ _ _ _,(λb a=>by cases a)⟩,rfl,(λe S=>by cases S)⟩
  ·have a:(if b=d.heap.size then (-5:Int)else if w.heap.size<=b/\b<d.heap.size then -4 else 0)≠0:=a;show w.heap.size<=b/\b<B.heap.size;split at a
   ·omega
   ·split at a
    ·omega
    ·exact absurd rfl a
  ·exact h.2.2.2.1 _ _ _ _ s.size (h.2.2.1 _ _ _ B _ (λb a=>s.block b a.2) (h.2.1 _ _ _ _ I C) C)
  ·refine h.1 _ _ _ (λb a=>?_) (h.2.1 _ _ _ _ I C);exact(if_neg (by omega)).trans (if_pos ⟨a.1,a.2⟩)
  ·rw[kX _ _ _ _ x];exact F (fJ j).1
  ·intro k b a;cases a
  ·intro b a;rcases a with a|a|⟨k,_,a⟩
   ·exact aj a
   ·cases a
   ·cases a
  ·intro k f D;cases D
  ·intro k T;cases T
end Go.Proofs.YtmmahddlcldmiaaGreat
