/- What is proved here: code.readAll at acts, clauses and behaviours, from what the reader of one does: what it returns is a new row of what is read, or false where one can't be. Condition: at most 8 terms. -/
import Derived.Test.YtmmahddlcldmiaaGreatJ26
namespace Go.Proofs.YtmmahddlcldmiaaGreat
open Go.RowKit Tryz
set_option maxHeartbeats 4000000
set_option maxRecDepth 100000
theorem oA{l:List av}(a:l.all (λu=>u.oneCell')=true):∀u∈l,u.oneCell'=true:=λu b=>by
 rw[cu]at a;exact a u b
def PN{a:Type}{n:Nat}(d:Nat->ag->a->Prop)(e:(Nat->Prop)->a->Prop)(S:a->a->Prop)(f:a->List av)(h:Nat)(T:TypeId)(g:Tm n->Option a)(p:List (Tm n))(w:ag)(k:Nat)(v:av)(wr:ag):Prop:=
 ∃(b c:List a),b.length=k/\ft d e f h T 0 w.heap.size b v w wr/\cQ g (p.take k)=some c/\eY S b c
theorem ft.slice{b:Type}{d:Nat->ag->b->Prop}{e:(Nat->Prop)->b->Prop}{f:b->List av}{k:Nat}{T:TypeId}{B base:Nat}{xs:List b}{v:av}{w0 wr:ag}(g:ft d e f k T B base xs v w0 wr):∃a c,v=ae a xs.length c:=by
 rcases g.2.1.2 with⟨rfl,h⟩|⟨j,cap,i,rfl,_⟩
 ·exact⟨none,0,by rw[h]⟩
 ·exact⟨_,_,rfl⟩
theorem Mu:(Tryz.prog.info? 248).map (λi=>(i.zero,i.size,i.bytes))=some (some (.agg #[ab 0,ab 0,ab 0,af .empty,ae none 0 0,ab 0,ab 0,af .empty,ae none 0 0,af .empty,ab 0]),11,144):=by kernel_rfl
theorem I0(n:Nat)(y:Ac n):∀u∈gi n y,u.oneCell'=true:=oA rfl
theorem zR(M n:Nat)(p:List (Tm n))(len:Nat)(ay:Hid (p.length=len))(bf:len<=8)(a:aw)(pc B:Nat)(w:ag)(r:Hid (fM B w n p a))(aR:B<=w.heap.size)(H:Hid (∀x∈p,∀w1,ak w w1->am 182 #[dw n x] w1 (qW (gi (M+1)) (iJ (M+1)) (mg (M+1)) (CX (M+1)) (sK M n x) w1))):am 181 #[ae a len pc,.func (Fn.func 182) #[] #[]] w (lK 11 (gi (M+1)) (iJ (M+1)) (mg (M+1)) (CX (M+1)) (cQ (sK M n) p) w):=by
 obtain⟨a1,aq,aB,aC,aD⟩:=bW Mu;have I:=au (⟨aq,aB,aC,aD⟩:_/\_/\_/\_);clear aq aB aC aD;have q:=au (fO (M+1));go_enter func181,ntmps181;go_wp2_with fail;go_loopw [6,13] (λv O wr=>∃(k:Nat)(aH:av),k<=len/\O=ab k/\aH=v/\Hid (PN (iJ (M+1)) (mg (M+1)) (CX (M+1)) (gi (M+1)) 11 248 (sK M n) p w k aH wr)) (λ_ O _=>len-(intOf O).toNat)
 case atStart=>exact⟨0,_,by omega,rfl,rfl,[],[],rfl,ft.nil _,by simp[cQ],eY.nil⟩
 case round=>
  obtain⟨k,v,bc,rfl,rfl,V⟩:=hrel;obtain⟨m,E,s,e,Y,W⟩:∃(m E:List (Ac (M+1))),Hid (m.length=k)/\Hid (ft (iJ (M+1)) (mg (M+1)) (gi (M+1)) 11 248 0 w.heap.size m v w wr)/\Hid (cQ (sK M n) (p.take k)=some E)/\Hid (eY (CX (M+1)) m E):=V.out;clear V;have N:w.heap.size<=wr.heap.size:=e.out.1.size;obtain⟨D,K,aE⟩:=e.out.slice;rw[s.out]at aE;subst aE;by_cases aX:k<len
  ·obtain⟨x,C⟩:∃x,p[k]?=some x:=⟨p[k]'(by rw[ay.out];exact aX),aM _⟩;have Z:=au C;rcases(r.out.below (e.out.1.mono aR))with r|⟨a2,po,rfl,bh,r⟩
   ·subst r;simp at C
   obtain⟨aG,aZ⟩:=r k x C;have G:Hid (∀w1,ak wr w1->am 182 #[dw n x] w1 (qW (gi (M+1)) (iJ (M+1)) (mg (M+1)) (CX (M+1)) (sK M n x) w1)):=λw1 y=>H.out x (aN C) w1 (e.out.1.trans (y.mono N));obtain⟨o,A⟩:∃o,sK M n x=o:=⟨_,rfl⟩;rw[A]at G;have S:=au A;have bi:a2<wr.heap.size:=by omega
   clear r C A aZ;cases n with
   | zero=>exact aG.elim
   | succ n=>
   obtain⟨a4,a5,a6,a7⟩:=aG;have J:dw (n+1) x=.agg #[ab x.1.1,ab x.1.2.1,af x.1.2.2,ae x.2.1.1 x.2.2.length x.2.1.2]:=rfl;rw[J]at G;clear J;have bd:(0:Int)<=(k:Int):=by omega
   have be:(k:Int)<(len:Int):=by omega
   go_wp2_with fail;refine(G.out _ aV).mono ?_;rintro ba h ⟨d,a3,rfl,j⟩;have F:Hid (ak wr h):=aV.trans (j.out.1.mono (by simp));have ah:wr.heap.size<=h.heap.size:=F.out.size;have ad:Value.agg (gi (M+1) d).toArray=.agg #[ab d.1,ab d.2.1.1.1.1,ab d.2.1.1.1.2.1,af d.2.1.1.1.2.2,ae d.2.1.1.2.1.1 d.2.1.1.2.2.length d.2.1.1.2.1.2,ab d.2.1.2.1.1,ab d.2.1.2.1.2.1,af d.2.1.2.1.2.2,ae d.2.1.2.2.1.1 d.2.1.2.2.2.length d.2.1.2.2.1.2,af d.2.2.1,ab d.2.2.2]:=rfl;rw[ad];clear ad G a4 a5 a6 a7;cases a3
   ·have L:Hid (lK 11 (gi (M+1)) (iJ (M+1)) (mg (M+1)) (CX (M+1)) (cQ (sK M (n+1)) p) w (.returned (.tuple #[ae none 0 0,.bool false])) (h.alloc (.cells #[ab d.1,ab d.2.1.1.1.1,ab d.2.1.1.1.2.1,af d.2.1.1.1.2.2,ae d.2.1.1.2.1.1 d.2.1.1.2.2.length d.2.1.1.2.1.2,ab d.2.1.2.1.1,ab d.2.1.2.1.2.1,af d.2.1.2.1.2.2,ae d.2.1.2.2.1.1 d.2.1.2.2.2.length d.2.1.2.2.1.2,af d.2.2.1,ab d.2.2.2] 248))):=by
      have ar:cQ (sK M (n+1)) p=none:=mm _ p k x Z.out (by
       have y:=j.out.2.1;rw[S.out];cases o with
       | none=>rfl
       | some i=>cases y)
      have z:ak w h:=e.out.1.trans (F.out.mono N);refine⟨[],none,0,false,rfl,z.trans (aV.mono z.size),by rw[ar];rfl,⟨ao _,aL _⟩,ai rfl,ai rfl,λi l=>by rw[ar]at l;cases l⟩
    clear j e;go_wp2_with fail;exact az (v:=.tuple #[ae none 0 0,.bool false]) (by simp[results,results181,go_sem]) rfl L.out
   ·have X:=λ(P Q:Obj)(g c:Nat)(R:ag) aY aU aS=>au (ft.step q.out (T:=248) (w1:=(h.alloc P).alloc Q) (w2:=R) (g:=g) (c:=c) e.out (aL _) N (F.out.trans ((aV.trans (aV.mono (by simp))).mono ah)) d (q.out.mono (by simp;omega) (q.out.below (aV.trans (aV.mono (by simp))) j.out.2.2.1)) (q.out.1 _ _ _ (λb z=>aj (by simp at z;omega)) j.out.2.2.2.1) aY aU aS);have U:=λ(P Q:Obj)=>au (dY e.out.2.1 (F.out.trans ((aV.trans (aV.mono (by simp)):ak h ((h.alloc P).alloc Q)).mono ah)));rw[s.out]at X U;go_wp2_with (at_builtin;refine wpList_append_lies _ rfl _ _ 160 rfl w.heap.size 248 a1 _ 11 144 underlying160 I.out.1 I.out.2.1 I.out.2.2.1 I.out.2.2.2 rfl (by decide) (ae D k K) k (m.flatMap (gi (M+1))) (by simp[Act.eval]) (U _ _).out ⟨h.heap.size+1,0,none⟩ 1 1 (gi (M+1) d) (by simp[Act.eval]) rfl (World.news_of_block (cs:= #[ab d.1,ab d.2.1.1.1.1,ab d.2.1.1.1.2.1,af d.2.1.1.1.2.2,ae d.2.1.1.2.1.1 d.2.1.1.2.2.length d.2.1.1.2.1.2,ab d.2.1.2.1.1,ab d.2.1.2.1.2.1,af d.2.1.2.1.2.2,ae d.2.1.2.2.1.1 d.2.1.2.2.2.length d.2.1.2.2.1.2,af d.2.2.1,ab d.2.2.2]) (t:=248) (fr:=(0,0)) (by have u:=aF (h.alloc (.cells #[ab d.1,ab d.2.1.1.1.1,ab d.2.1.1.1.2.1,af d.2.1.1.1.2.2,ae d.2.1.1.2.1.1 d.2.1.1.2.2.length d.2.1.1.2.1.2,ab d.2.1.2.1.1,ab d.2.1.2.1.2.1,af d.2.1.2.1.2.2,ae d.2.1.2.2.1.1 d.2.1.2.2.2.length d.2.1.2.2.1.2,af d.2.2.1,ab d.2.2.2] 248)) (.cells #[ab d.1,ab d.2.1.1.1.1,ab d.2.1.1.1.2.1,af d.2.1.1.1.2.2,ae d.2.1.1.2.1.1 d.2.1.1.2.2.length d.2.1.1.2.1.2,ab d.2.1.2.1.1,ab d.2.1.2.1.2.1,af d.2.1.2.1.2.2,ae d.2.1.2.2.1.1 d.2.1.2.2.2.length d.2.1.2.2.1.2,af d.2.2.1,ab d.2.2.2] 248);simp only[iG]at u;exact u)) (I0 _ _) (by decide) (by unfold maxLen;omega) (by omega) (by simp;omega) (h.heap.size+1+1) (by simp) ?_;intro aQ aO R ax ap an bg;have aK:=X _ _ aQ aO R ax ap (by simpa using an);clear ax ap an);have aI:Hid (∃i,o=some i/\CX (M+1) d i):=by
     have y:=j.out.2.1;cases o with
     | none=>cases y
     | some i=>exact⟨i,rfl,j.out.2.2.2.2 i rfl⟩
    obtain⟨i,l,a0⟩:=aI.out;have aJ:=au (S.out.trans l);go_roundw
    case rel=>exact⟨k+1,_,by omega,by go_num,rfl,m++ [d],E++ [i],by simp[s.out],aK.out,sj _ _ _ _ Z.out _ _ Y.out aJ.out,W.out.snoc a0⟩
    case measure=>simp[intOf];omega
  ·have L:Hid (lK 11 (gi (M+1)) (iJ (M+1)) (mg (M+1)) (CX (M+1)) (cQ (sK M n) p) w (.returned (.tuple #[ae D k K,.bool true])) wr):=by
     have al:cQ (sK M n) p=some E:=by have u:=Y.out;rw[bF (by rw[ay.out];omega)]at u;exact u
     obtain⟨a8,a9,aa,aT,aW,A⟩:=ft.lay (f:=gi (M+1)) (k:=11) q.out (λ_=>rfl) e.out;rw[s.out]at aa;injection aa with aP bb J;subst aP J;refine⟨m,D,K,true,by rw[s.out],e.out.1,by rw[al];rfl,aT,aW,?_,λi l=>by rw[al]at l;obtain rfl:=aA l;exact W.out⟩;exact(cN q.out 11 (gi (M+1)) D).1 _ _ _ (λb z=>by omega) A
   clear e;go_wp2_with fail;exact az (v:=.tuple #[ae D k K,.bool true]) (by simp[results,results181,go_sem]) rfl L.out
theorem Dv:(Tryz.prog.info? 162).map (λi=>(i.zero,i.size,i.bytes))=some (some (.agg #[ab 0,ab 0,af .empty,ae none 0 0,ab 0,ab 0,af .empty,ae none 0 0,ae none 0 0,ab 0,ab 0,af .empty,ae none 0 0]),13,192):=by kernel_rfl
theorem Jg(n:Nat)(y:Cl n):∀u∈fk n y,u.oneCell'=true:=oA rfl
theorem tS(M n:Nat)(p:List (Tm n))(len:Nat)(ay:Hid (p.length=len))(bf:len<=8)(a:aw)(pc B:Nat)(w:ag)(r:Hid (fM B w n p a))(aR:B<=w.heap.size)(H:Hid (∀x∈p,∀w1,ak w w1->am 144 #[dw n x] w1 (qW (fk (M+1)) (ig (M+1)) (jY (M+1)) (CR (M+1)) (zK M n x) w1))):am 143 #[ae a len pc,.func (Fn.func 144) #[] #[]] w (lK 13 (fk (M+1)) (ig (M+1)) (jY (M+1)) (CR (M+1)) (cQ (zK M n) p) w):=by
 obtain⟨a1,aq,aB,aC,aD⟩:=bW Dv;have I:=au (⟨aq,aB,aC,aD⟩:_/\_/\_/\_);clear aq aB aC aD;have q:=au (eE (M+1));go_enter func143,ntmps143;go_wp2_with fail;go_loopw [6,13] (λv O wr=>∃(k:Nat)(aH:av),k<=len/\O=ab k/\aH=v/\Hid (PN (ig (M+1)) (jY (M+1)) (CR (M+1)) (fk (M+1)) 13 162 (zK M n) p w k aH wr)) (λ_ O _=>len-(intOf O).toNat)
 case atStart=>exact⟨0,_,by omega,rfl,rfl,[],[],rfl,ft.nil _,by simp[cQ],eY.nil⟩
 case round=>
  obtain⟨k,v,bc,rfl,rfl,V⟩:=hrel;obtain⟨m,E,s,e,Y,W⟩:∃(m E:List (Cl (M+1))),Hid (m.length=k)/\Hid (ft (ig (M+1)) (jY (M+1)) (fk (M+1)) 13 162 0 w.heap.size m v w wr)/\Hid (cQ (zK M n) (p.take k)=some E)/\Hid (eY (CR (M+1)) m E):=V.out;clear V;have N:w.heap.size<=wr.heap.size:=e.out.1.size;obtain⟨D,K,aE⟩:=e.out.slice;rw[s.out]at aE;subst aE;by_cases aX:k<len
  ·obtain⟨x,C⟩:∃x,p[k]?=some x:=⟨p[k]'(by rw[ay.out];exact aX),aM _⟩;have Z:=au C;rcases(r.out.below (e.out.1.mono aR))with r|⟨a2,po,rfl,bh,r⟩
   ·subst r;simp at C
   obtain⟨aG,aZ⟩:=r k x C;have G:Hid (∀w1,ak wr w1->am 144 #[dw n x] w1 (qW (fk (M+1)) (ig (M+1)) (jY (M+1)) (CR (M+1)) (zK M n x) w1)):=λw1 y=>H.out x (aN C) w1 (e.out.1.trans (y.mono N));obtain⟨o,A⟩:∃o,zK M n x=o:=⟨_,rfl⟩;rw[A]at G;have S:=au A;have bi:a2<wr.heap.size:=by omega
   clear r C A aZ;cases n with
   | zero=>exact aG.elim
   | succ n=>
   obtain⟨a4,a5,a6,a7⟩:=aG;have J:dw (n+1) x=.agg #[ab x.1.1,ab x.1.2.1,af x.1.2.2,ae x.2.1.1 x.2.2.length x.2.1.2]:=rfl;rw[J]at G;clear J;have bd:(0:Int)<=(k:Int):=by omega
   have be:(k:Int)<(len:Int):=by omega
   go_wp2_with fail;refine(G.out _ aV).mono ?_;rintro ba h ⟨d,a3,rfl,j⟩;have F:Hid (ak wr h):=aV.trans (j.out.1.mono (by simp));have ah:wr.heap.size<=h.heap.size:=F.out.size;have ad:Value.agg (fk (M+1) d).toArray=.agg #[ab d.1.1.1.1,ab d.1.1.1.2.1,af d.1.1.1.2.2,ae d.1.1.2.1.1 d.1.1.2.2.length d.1.1.2.1.2,ab d.1.2.1.1.1,ab d.1.2.1.1.2.1,af d.1.2.1.1.2.2,ae d.1.2.1.2.1.1 d.1.2.1.2.2.length d.1.2.1.2.1.2,ae d.2.1.1 d.2.2.length d.2.1.2,ab d.1.2.2.1.1,ab d.1.2.2.1.2.1,af d.1.2.2.1.2.2,ae d.1.2.2.2.1.1 d.1.2.2.2.2.length d.1.2.2.2.1.2]:=rfl;rw[ad];clear ad G a4 a5 a6 a7;cases a3
   ·have L:Hid (lK 13 (fk (M+1)) (ig (M+1)) (jY (M+1)) (CR (M+1)) (cQ (zK M (n+1)) p) w (.returned (.tuple #[ae none 0 0,.bool false])) (h.alloc (.cells #[ab d.1.1.1.1,ab d.1.1.1.2.1,af d.1.1.1.2.2,ae d.1.1.2.1.1 d.1.1.2.2.length d.1.1.2.1.2,ab d.1.2.1.1.1,ab d.1.2.1.1.2.1,af d.1.2.1.1.2.2,ae d.1.2.1.2.1.1 d.1.2.1.2.2.length d.1.2.1.2.1.2,ae d.2.1.1 d.2.2.length d.2.1.2,ab d.1.2.2.1.1,ab d.1.2.2.1.2.1,af d.1.2.2.1.2.2,ae d.1.2.2.2.1.1 d.1.2.2.2.2.length d.1.2.2.2.1.2] 162))):=by
      have ar:cQ (zK M (n+1)) p=none:=mm _ p k x Z.out (by
       have y:=j.out.2.1;rw[S.out];cases o with
       | none=>rfl
       | some i=>cases y)
      have z:ak w h:=e.out.1.trans (F.out.mono N);refine⟨[],none,0,false,rfl,z.trans (aV.mono z.size),by rw[ar];rfl,⟨ao _,aL _⟩,ai rfl,ai rfl,λi l=>by rw[ar]at l;cases l⟩
    clear j e;go_wp2_with fail;exact az (v:=.tuple #[ae none 0 0,.bool false]) (by simp[results,results143,go_sem]) rfl L.out
   ·have X:=λ(P Q:Obj)(g c:Nat)(R:ag) aY aU aS=>au (ft.step q.out (T:=162) (w1:=(h.alloc P).alloc Q) (w2:=R) (g:=g) (c:=c) e.out (aL _) N (F.out.trans ((aV.trans (aV.mono (by simp))).mono ah)) d (q.out.mono (by simp;omega) (q.out.below (aV.trans (aV.mono (by simp))) j.out.2.2.1)) (q.out.1 _ _ _ (λb z=>aj (by simp at z;omega)) j.out.2.2.2.1) aY aU aS);have U:=λ(P Q:Obj)=>au (dY e.out.2.1 (F.out.trans ((aV.trans (aV.mono (by simp)):ak h ((h.alloc P).alloc Q)).mono ah)));rw[s.out]at X U;go_wp2_with (at_builtin;refine wpList_append_lies _ rfl _ _ 149 rfl w.heap.size 162 a1 _ 13 192 underlying149 I.out.1 I.out.2.1 I.out.2.2.1 I.out.2.2.2 rfl (by decide) (ae D k K) k (m.flatMap (fk (M+1))) (by simp[Act.eval]) (U _ _).out ⟨h.heap.size+1,0,none⟩ 1 1 (fk (M+1) d) (by simp[Act.eval]) rfl (World.news_of_block (cs:= #[ab d.1.1.1.1,ab d.1.1.1.2.1,af d.1.1.1.2.2,ae d.1.1.2.1.1 d.1.1.2.2.length d.1.1.2.1.2,ab d.1.2.1.1.1,ab d.1.2.1.1.2.1,af d.1.2.1.1.2.2,ae d.1.2.1.2.1.1 d.1.2.1.2.2.length d.1.2.1.2.1.2,ae d.2.1.1 d.2.2.length d.2.1.2,ab d.1.2.2.1.1,ab d.1.2.2.1.2.1,af d.1.2.2.1.2.2,ae d.1.2.2.2.1.1 d.1.2.2.2.2.length d.1.2.2.2.1.2]) (t:=162) (fr:=(0,0)) (by have u:=aF (h.alloc (.cells #[ab d.1.1.1.1,ab d.1.1.1.2.1,af d.1.1.1.2.2,ae d.1.1.2.1.1 d.1.1.2.2.length d.1.1.2.1.2,ab d.1.2.1.1.1,ab d.1.2.1.1.2.1,af d.1.2.1.1.2.2,ae d.1.2.1.2.1.1 d.1.2.1.2.2.length d.1.2.1.2.1.2,ae d.2.1.1 d.2.2.length d.2.1.2,ab d.1.2.2.1.1,ab d.1.2.2.1.2.1,af d.1.2.2.1.2.2,ae d.1.2.2.2.1.1 d.1.2.2.2.2.length d.1.2.2.2.1.2] 162)) (.cells #[ab d.1.1.1.1,ab d.1.1.1.2.1,af d.1.1.1.2.2,ae d.1.1.2.1.1 d.1.1.2.2.length d.1.1.2.1.2,ab d.1.2.1.1.1,ab d.1.2.1.1.2.1,af d.1.2.1.1.2.2,ae d.1.2.1.2.1.1 d.1.2.1.2.2.length d.1.2.1.2.1.2,ae d.2.1.1 d.2.2.length d.2.1.2,ab d.1.2.2.1.1,ab d.1.2.2.1.2.1,af d.1.2.2.1.2.2,ae d.1.2.2.2.1.1 d.1.2.2.2.2.length d.1.2.2.2.1.2] 162);simp only[iG]at u;exact u)) (Jg _ _) (by decide) (by unfold maxLen;omega) (by omega) (by simp;omega) (h.heap.size+1+1) (by simp) ?_;intro aQ aO R ax ap an bg;have aK:=X _ _ aQ aO R ax ap (by simpa using an);clear ax ap an);have aI:Hid (∃i,o=some i/\CR (M+1) d i):=by
     have y:=j.out.2.1;cases o with
     | none=>cases y
     | some i=>exact⟨i,rfl,j.out.2.2.2.2 i rfl⟩
    obtain⟨i,l,a0⟩:=aI.out;have aJ:=au (S.out.trans l);go_roundw
    case rel=>exact⟨k+1,_,by omega,by go_num,rfl,m++ [d],E++ [i],by simp[s.out],aK.out,sj _ _ _ _ Z.out _ _ Y.out aJ.out,W.out.snoc a0⟩
    case measure=>simp[intOf];omega
  ·have L:Hid (lK 13 (fk (M+1)) (ig (M+1)) (jY (M+1)) (CR (M+1)) (cQ (zK M n) p) w (.returned (.tuple #[ae D k K,.bool true])) wr):=by
     have al:cQ (zK M n) p=some E:=by have u:=Y.out;rw[bF (by rw[ay.out];omega)]at u;exact u
     obtain⟨a8,a9,aa,aT,aW,A⟩:=ft.lay (f:=fk (M+1)) (k:=13) q.out (λ_=>rfl) e.out;rw[s.out]at aa;injection aa with aP bb J;subst aP J;refine⟨m,D,K,true,by rw[s.out],e.out.1,by rw[al];rfl,aT,aW,?_,λi l=>by rw[al]at l;obtain rfl:=aA l;exact W.out⟩;exact(cN q.out 13 (fk (M+1)) D).1 _ _ _ (λb z=>by omega) A
   clear e;go_wp2_with fail;exact az (v:=.tuple #[ae D k K,.bool true]) (by simp[results,results143,go_sem]) rfl L.out
theorem wN:(Tryz.prog.info? 151).map (λi=>(i.zero,i.size,i.bytes))=some (some (.agg #[af .empty,ae none 0 0]),2,40):=by kernel_rfl
theorem LU(n:Nat)(y:Bh n):∀u∈pN n y,u.oneCell'=true:=oA rfl
theorem qC(M n:Nat)(p:List (Tm n))(len:Nat)(ay:Hid (p.length=len))(bf:len<=8)(a:aw)(pc B:Nat)(w:ag)(r:Hid (fM B w n p a))(aR:B<=w.heap.size)(H:Hid (∀x∈p,∀w1,ak w w1->am 106 #[dw n x] w1 (qW (pN (M+1)) (pJ (M+1)) (jX (M+1)) (yN (M+1)) (zJ M n x) w1))):am 105 #[ae a len pc,.func (Fn.func 106) #[] #[]] w (lK 2 (pN (M+1)) (pJ (M+1)) (jX (M+1)) (yN (M+1)) (cQ (zJ M n) p) w):=by
 obtain⟨a1,aq,aB,aC,aD⟩:=bW wN;have I:=au (⟨aq,aB,aC,aD⟩:_/\_/\_/\_);clear aq aB aC aD;have q:=au (ed (M+1));go_enter func105,ntmps105;go_wp2_with fail;go_loopw [6,13] (λv O wr=>∃(k:Nat)(aH:av),k<=len/\O=ab k/\aH=v/\Hid (PN (pJ (M+1)) (jX (M+1)) (yN (M+1)) (pN (M+1)) 2 151 (zJ M n) p w k aH wr)) (λ_ O _=>len-(intOf O).toNat)
 case atStart=>exact⟨0,_,by omega,rfl,rfl,[],[],rfl,ft.nil _,by simp[cQ],eY.nil⟩
 case round=>
  obtain⟨k,v,bc,rfl,rfl,V⟩:=hrel;obtain⟨m,E,s,e,Y,W⟩:∃(m E:List (Bh (M+1))),Hid (m.length=k)/\Hid (ft (pJ (M+1)) (jX (M+1)) (pN (M+1)) 2 151 0 w.heap.size m v w wr)/\Hid (cQ (zJ M n) (p.take k)=some E)/\Hid (eY (yN (M+1)) m E):=V.out;clear V;have N:w.heap.size<=wr.heap.size:=e.out.1.size;obtain⟨D,K,aE⟩:=e.out.slice;rw[s.out]at aE;subst aE;by_cases aX:k<len
  ·obtain⟨x,C⟩:∃x,p[k]?=some x:=⟨p[k]'(by rw[ay.out];exact aX),aM _⟩;have Z:=au C;rcases(r.out.below (e.out.1.mono aR))with r|⟨a2,po,rfl,bh,r⟩
   ·subst r;simp at C
   obtain⟨aG,aZ⟩:=r k x C;have G:Hid (∀w1,ak wr w1->am 106 #[dw n x] w1 (qW (pN (M+1)) (pJ (M+1)) (jX (M+1)) (yN (M+1)) (zJ M n x) w1)):=λw1 y=>H.out x (aN C) w1 (e.out.1.trans (y.mono N));obtain⟨o,A⟩:∃o,zJ M n x=o:=⟨_,rfl⟩;rw[A]at G;have S:=au A;have bi:a2<wr.heap.size:=by omega
   clear r C A aZ;cases n with
   | zero=>exact aG.elim
   | succ n=>
   obtain⟨a4,a5,a6,a7⟩:=aG;have J:dw (n+1) x=.agg #[ab x.1.1,ab x.1.2.1,af x.1.2.2,ae x.2.1.1 x.2.2.length x.2.1.2]:=rfl;rw[J]at G;clear J;have bd:(0:Int)<=(k:Int):=by omega
   have be:(k:Int)<(len:Int):=by omega
   go_wp2_with fail;refine(G.out _ aV).mono ?_;rintro ba h ⟨d,a3,rfl,j⟩;have F:Hid (ak wr h):=aV.trans (j.out.1.mono (by simp));have ah:wr.heap.size<=h.heap.size:=F.out.size;have ad:Value.agg (pN (M+1) d).toArray=.agg #[af d.1,ae d.2.1.1 d.2.2.length d.2.1.2]:=rfl;rw[ad];clear ad G a4 a5 a6 a7;cases a3
   ·have L:Hid (lK 2 (pN (M+1)) (pJ (M+1)) (jX (M+1)) (yN (M+1)) (cQ (zJ M (n+1)) p) w (.returned (.tuple #[ae none 0 0,.bool false])) (h.alloc (.cells #[af d.1,ae d.2.1.1 d.2.2.length d.2.1.2] 151))):=by
      have ar:cQ (zJ M (n+1)) p=none:=mm _ p k x Z.out (by
       have y:=j.out.2.1;rw[S.out];cases o with
       | none=>rfl
       | some i=>cases y)
      have z:ak w h:=e.out.1.trans (F.out.mono N);refine⟨[],none,0,false,rfl,z.trans (aV.mono z.size),by rw[ar];rfl,⟨ao _,aL _⟩,ai rfl,ai rfl,λi l=>by rw[ar]at l;cases l⟩
    clear j e;go_wp2_with fail;exact az (v:=.tuple #[ae none 0 0,.bool false]) (by simp[results,results105,go_sem]) rfl L.out
   ·have X:=λ(P Q:Obj)(g c:Nat)(R:ag) aY aU aS=>au (ft.step q.out (T:=151) (w1:=(h.alloc P).alloc Q) (w2:=R) (g:=g) (c:=c) e.out (aL _) N (F.out.trans ((aV.trans (aV.mono (by simp))).mono ah)) d (q.out.mono (by simp;omega) (q.out.below (aV.trans (aV.mono (by simp))) j.out.2.2.1)) (q.out.1 _ _ _ (λb z=>aj (by simp at z;omega)) j.out.2.2.2.1) aY aU aS);have U:=λ(P Q:Obj)=>au (dY e.out.2.1 (F.out.trans ((aV.trans (aV.mono (by simp)):ak h ((h.alloc P).alloc Q)).mono ah)));rw[s.out]at X U;go_wp2_with (at_builtin;refine wpList_append_lies _ rfl _ _ 22 rfl w.heap.size 151 a1 _ 2 40 underlying22 I.out.1 I.out.2.1 I.out.2.2.1 I.out.2.2.2 rfl (by decide) (ae D k K) k (m.flatMap (pN (M+1))) (by simp[Act.eval]) (U _ _).out ⟨h.heap.size+1,0,none⟩ 1 1 (pN (M+1) d) (by simp[Act.eval]) rfl (World.news_of_block (cs:= #[af d.1,ae d.2.1.1 d.2.2.length d.2.1.2]) (t:=151) (fr:=(0,0)) (by have u:=aF (h.alloc (.cells #[af d.1,ae d.2.1.1 d.2.2.length d.2.1.2] 151)) (.cells #[af d.1,ae d.2.1.1 d.2.2.length d.2.1.2] 151);simp only[iG]at u;exact u)) (LU _ _) (by decide) (by unfold maxLen;omega) (by omega) (by simp;omega) (h.heap.size+1+1) (by simp) ?_;intro aQ aO R ax ap an bg;have aK:=X _ _ aQ aO R ax ap (by simpa using an);clear ax ap an);have aI:Hid (∃i,o=some i/\yN (M+1) d i):=by
     have y:=j.out.2.1;cases o with
     | none=>cases y
     | some i=>exact⟨i,rfl,j.out.2.2.2.2 i rfl⟩
    obtain⟨i,l,a0⟩:=aI.out;have aJ:=au (S.out.trans l);go_roundw
    case rel=>exact⟨k+1,_,by omega,by go_num,rfl,m++ [d],E++ [i],by simp[s.out],aK.out,sj _ _ _ _ Z.out _ _ Y.out aJ.out,W.out.snoc a0⟩
    case measure=>simp[intOf];omega
  ·have L:Hid (lK 2 (pN (M+1)) (pJ (M+1)) (jX (M+1)) (yN (M+1)) (cQ (zJ M n) p) w (.returned (.tuple #[ae D k K,.bool true])) wr):=by
     have al:cQ (zJ M n) p=some E:=by have u:=Y.out;rw[bF (by rw[ay.out];omega)]at u;exact u
     obtain⟨a8,a9,aa,aT,aW,A⟩:=ft.lay (f:=pN (M+1)) (k:=2) q.out (λ_=>rfl) e.out;rw[s.out]at aa;injection aa with aP bb J;subst aP J;refine⟨m,D,K,true,by rw[s.out],e.out.1,by rw[al];rfl,aT,aW,?_,λi l=>by rw[al]at l;obtain rfl:=aA l;exact W.out⟩;exact(cN q.out 2 (pN (M+1)) D).1 _ _ _ (λb z=>by omega) A
   clear e;go_wp2_with fail;exact az (v:=.tuple #[ae D k K,.bool true]) (by simp[results,results105,go_sem]) rfl L.out
end Go.Proofs.YtmmahddlcldmiaaGreat
