/- What is proved here: code.readAll at acts, clauses and behaviours, from what the reader of one does: what it returns is a new row of what is read, or false where one can't be. Condition: at most 8 terms. -/
import Derived.Test.YtnidfceinoiboaaGreatG34
namespace Go.Proofs.YtnidfceinoiboaaGreat
open Go.RowKit
set_option maxHeartbeats 4000000
set_option maxRecDepth 100000
theorem mV{l:List Value}(a:l.all (λu=>u.oneCell')=true):∀u∈l,u.oneCell'=true:=λu b=>by
 rw[bS]at a;exact a u b
def LY{a:Type}{n:Nat}(I:Nat->World->a->Prop)(d:(Nat->Prop)->a->Prop)(S:a->a->Prop)(f:a->List Value)(e:Nat)(T:TypeId)(g:Tm n->Option a)(p:List (Tm n))(w:World)(k:Nat)(v:Value)(wr:World):Prop:=
 ∃(b c:List a),b.length=k/\eN I d f e T 0 w.heap.size b v w wr/\cF g (p.take k)=some c/\dz S b c
theorem eN.slice{b:Type}{I:Nat->World->b->Prop}{d:(Nat->Prop)->b->Prop}{f:b->List Value}{k:Nat}{T:TypeId}{B base:Nat}{xs:List b}{v:Value}{w0 wr:World}(e:eN I d f k T B base xs v w0 wr):∃a c,v=.slice a xs.length c:=by
 rcases e.2.1.2 with⟨rfl,g⟩|⟨i,cap,h,rfl,_⟩
 ·exact⟨none,0,by rw[g]⟩
 ·exact⟨_,_,rfl⟩
theorem IP:(Tryz.prog.info? 83).map (λi=>(i.zero,i.size,i.bytes))=some (some (.agg #[.int .i64 0,.int .i64 0,.int .i64 0,.string .empty,.slice none 0 0,.int .i64 0,.int .i64 0,.string .empty,.slice none 0 0,.string .empty,.int .i64 0]),11,144):=by kernel_rfl
theorem E6(n:Nat)(y:Ac n):∀u∈fy n y,u.oneCell'=true:=mV rfl
theorem xh(M n:Nat)(p:List (Tm n))(len:Nat)(aq:Hid (p.length=len))(a7:len<=8)(a:Option Addr)(pc B:Nat)(w:World)(r:Hid (eY B w n p a))(aK:B<=w.heap.size)(H:Hid (∀x∈p,∀w1,Below w.heap.size w w1->Calls Tryz.prog 143 #[dg n x] w1 (pu (fy (M+1)) (gQ (M+1)) (kY (M+1)) (Av (M+1)) (qK M n x) w1))):Calls Tryz.prog 142 #[.slice a len pc,.func (Fn.func 143) #[] #[]] w (kE 11 (fy (M+1)) (gQ (M+1)) (kY (M+1)) (Av (M+1)) (cF (qK M n) p) w):=by
 obtain⟨aT,al,ar,au,av⟩:=bM IP;have I:=ai (⟨al,ar,au,av⟩:_/\_/\_/\_);clear al ar au av;have q:=ai (fh (M+1));go_enter Tryz.func142,Tryz.ntmps142;go_wp2_with fail;go_loopw [6,13] (λv O wr=>∃(k:Nat)(aB:Value),k<=len/\O=.int .i64 k/\aB=v/\Hid (LY (gQ (M+1)) (kY (M+1)) (Av (M+1)) (fy (M+1)) 11 83 (qK M n) p w k aB wr)) (λ_ O _=>len-(intOf O).toNat)
 case atStart=>exact⟨0,_,by omega,rfl,rfl,[],[],rfl,eN.nil _,by simp[cF],dz.nil⟩
 case round=>
  obtain⟨k,v,a4,rfl,rfl,V⟩:=hrel;obtain⟨m,E,s,e,Y,W⟩:∃(m E:List (Ac (M+1))),Hid (m.length=k)/\Hid (eN (gQ (M+1)) (kY (M+1)) (fy (M+1)) 11 83 0 w.heap.size m v w wr)/\Hid (cF (qK M n) (p.take k)=some E)/\Hid (dz (Av (M+1)) m E):=V.out;clear V;have N:w.heap.size<=wr.heap.size:=e.out.1.size;obtain⟨D,K,aw⟩:=e.out.slice;rw[s.out]at aw;subst aw;by_cases aP:k<len
  ·obtain⟨x,C⟩:∃x,p[k]?=some x:=⟨p[k]'(by rw[aq.out];exact aP),aA _⟩;have Z:=ai C;rcases(r.out.below (e.out.1.mono aK))with r|⟨aU,po,rfl,a9,r⟩
   ·subst r;simp at C
   obtain⟨az,aR⟩:=r k x C;have G:Hid (∀w1,Below wr.heap.size wr w1->Calls Tryz.prog 143 #[dg n x] w1 (pu (fy (M+1)) (gQ (M+1)) (kY (M+1)) (Av (M+1)) (qK M n x) w1)):=λw1 y=>H.out x (ay C) w1 (e.out.1.trans (y.mono N));obtain⟨o,A⟩:∃o,qK M n x=o:=⟨_,rfl⟩;rw[A]at G;have S:=ai A;have ba:aU<wr.heap.size:=by omega
   clear r C A aR;cases n with
   | zero=>exact az.elim
   | succ n=>
   obtain⟨aW,aX,aY,aZ⟩:=az;have J:dg (n+1) x=.agg #[.int .i64 x.1.1,.int .i64 x.1.2.1,.string x.1.2.2,.slice x.2.1.1 x.2.2.length x.2.1.2]:=rfl;rw[J]at G;clear J;have a5:(0:Int)<=(k:Int):=by omega
   have a6:(k:Int)<(len:Int):=by omega
   go_wp2_with fail;refine(G.out _ aG).mono ?_;rintro a2 h ⟨d,aV,rfl,j⟩;have F:Hid (Below wr.heap.size wr h):=aG.trans (j.out.1.mono (by simp));have ad:wr.heap.size<=h.heap.size:=F.out.size;have ab:Value.agg (fy (M+1) d).toArray=.agg #[.int .i64 d.1,.int .i64 d.2.1.1.1.1,.int .i64 d.2.1.1.1.2.1,.string d.2.1.1.1.2.2,.slice d.2.1.1.2.1.1 d.2.1.1.2.2.length d.2.1.1.2.1.2,.int .i64 d.2.1.2.1.1,.int .i64 d.2.1.2.1.2.1,.string d.2.1.2.1.2.2,.slice d.2.1.2.2.1.1 d.2.1.2.2.2.length d.2.1.2.2.1.2,.string d.2.2.1,.int .i64 d.2.2.2]:=rfl;rw[ab];clear ab G aW aX aY aZ;cases aV
   ·have L:Hid (kE 11 (fy (M+1)) (gQ (M+1)) (kY (M+1)) (Av (M+1)) (cF (qK M (n+1)) p) w (.returned (.tuple #[.slice none 0 0,.bool false])) (h.alloc (.cells #[.int .i64 d.1,.int .i64 d.2.1.1.1.1,.int .i64 d.2.1.1.1.2.1,.string d.2.1.1.1.2.2,.slice d.2.1.1.2.1.1 d.2.1.1.2.2.length d.2.1.1.2.1.2,.int .i64 d.2.1.2.1.1,.int .i64 d.2.1.2.1.2.1,.string d.2.1.2.1.2.2,.slice d.2.1.2.2.1.1 d.2.1.2.2.2.length d.2.1.2.2.1.2,.string d.2.2.1,.int .i64 d.2.2.2] 83))):=by
      have am:cF (qK M (n+1)) p=none:=lg _ p k x Z.out (by
       have y:=j.out.2.1;rw[S.out];cases o with
       | none=>rfl
       | some i=>cases y)
      have z:Below w.heap.size w h:=e.out.1.trans (F.out.mono N);refine⟨[],none,0,false,rfl,z.trans (aG.mono z.size),by rw[am];rfl,⟨ag _,aD _⟩,ae rfl,ae rfl,λi l=>by rw[am]at l;cases l⟩
    clear j e;go_wp2_with fail;exact ao (v:=.tuple #[.slice none 0 0,.bool false]) (by simp[results,Tryz.results142,go_sem]) rfl L.out
   ·have X:=λ(P Q:Obj)(g c:Nat)(R:World) aQ aN aL=>ai (eN.step q.out (T:=83) (w1:=(h.alloc P).alloc Q) (w2:=R) (g:=g) (c:=c) e.out (aD _) N (F.out.trans ((aG.trans (aG.mono (by simp))).mono ad)) d (q.out.mono (by simp;omega) (q.out.below (aG.trans (aG.mono (by simp))) j.out.2.2.1)) (q.out.1 _ _ _ (λb z=>af (by simp at z;omega)) j.out.2.2.2.1) aQ aN aL);have U:=λ(P Q:Obj)=>ai (dF e.out.2.1 (F.out.trans ((aG.trans (aG.mono (by simp)):Below h.heap.size h ((h.alloc P).alloc Q)).mono ad)));rw[s.out]at X U;go_wp2_with (at_builtin;refine wpList_append_lies _ rfl _ _ 84 rfl w.heap.size 83 aT _ 11 144 Tryz.underlying84 I.out.1 I.out.2.1 I.out.2.2.1 I.out.2.2.2 rfl (by decide) (.slice D k K) k (m.flatMap (fy (M+1))) (by simp[Act.eval]) (U _ _).out ⟨h.heap.size+1,0,none⟩ 1 1 (fy (M+1) d) (by simp[Act.eval]) rfl (World.news_of_block (cs:= #[.int .i64 d.1,.int .i64 d.2.1.1.1.1,.int .i64 d.2.1.1.1.2.1,.string d.2.1.1.1.2.2,.slice d.2.1.1.2.1.1 d.2.1.1.2.2.length d.2.1.1.2.1.2,.int .i64 d.2.1.2.1.1,.int .i64 d.2.1.2.1.2.1,.string d.2.1.2.1.2.2,.slice d.2.1.2.2.1.1 d.2.1.2.2.2.length d.2.1.2.2.1.2,.string d.2.2.1,.int .i64 d.2.2.2]) (t:=83) (fr:=(0,0)) (by have u:=ax (h.alloc (.cells #[.int .i64 d.1,.int .i64 d.2.1.1.1.1,.int .i64 d.2.1.1.1.2.1,.string d.2.1.1.1.2.2,.slice d.2.1.1.2.1.1 d.2.1.1.2.2.length d.2.1.1.2.1.2,.int .i64 d.2.1.2.1.1,.int .i64 d.2.1.2.1.2.1,.string d.2.1.2.1.2.2,.slice d.2.1.2.2.1.1 d.2.1.2.2.2.length d.2.1.2.2.1.2,.string d.2.2.1,.int .i64 d.2.2.2] 83)) (.cells #[.int .i64 d.1,.int .i64 d.2.1.1.1.1,.int .i64 d.2.1.1.1.2.1,.string d.2.1.1.1.2.2,.slice d.2.1.1.2.1.1 d.2.1.1.2.2.length d.2.1.1.2.1.2,.int .i64 d.2.1.2.1.1,.int .i64 d.2.1.2.1.2.1,.string d.2.1.2.1.2.2,.slice d.2.1.2.2.1.1 d.2.1.2.2.2.length d.2.1.2.2.1.2,.string d.2.2.1,.int .i64 d.2.2.2] 83);simp only[jb]at u;exact u)) (E6 _ _) (by decide) (by unfold maxLen;omega) (by omega) (by simp;omega) (h.heap.size+1+1) (by simp) ?_;intro aJ aH R an ak aj a8;have aF:=X _ _ aJ aH R an ak (by simpa using aj);clear an ak aj);have aC:Hid (∃i,o=some i/\Av (M+1) d i):=by
     have y:=j.out.2.1;cases o with
     | none=>cases y
     | some i=>exact⟨i,rfl,j.out.2.2.2.2 i rfl⟩
    obtain⟨i,l,aS⟩:=aC.out;have aE:=ai (S.out.trans l);go_roundw
    case rel=>exact⟨k+1,_,by omega,by go_num,rfl,m++ [d],E++ [i],by simp[s.out],aF.out,qr _ _ _ _ Z.out _ _ Y.out aE.out,W.out.snoc aS⟩
    case measure=>simp[intOf];omega
  ·have L:Hid (kE 11 (fy (M+1)) (gQ (M+1)) (kY (M+1)) (Av (M+1)) (cF (qK M n) p) w (.returned (.tuple #[.slice D k K,.bool true])) wr):=by
     have ah:cF (qK M n) p=some E:=by have u:=Y.out;rw[bk (by rw[aq.out];omega)]at u;exact u
     obtain⟨a0,a1,aa,aM,aO,A⟩:=eN.lay (f:=fy (M+1)) (k:=11) q.out (λ_=>rfl) e.out;rw[s.out]at aa;injection aa with aI a3 J;subst aI J;refine⟨m,D,K,true,by rw[s.out],e.out.1,by rw[ah];rfl,aM,aO,?_,λi l=>by rw[ah]at l;obtain rfl:=ap l;exact W.out⟩;exact(bZ q.out 11 (fy (M+1)) D).1 _ _ _ (λb z=>by omega) A
   clear e;go_wp2_with fail;exact ao (v:=.tuple #[.slice D k K,.bool true]) (by simp[results,Tryz.results142,go_sem]) rfl L.out
theorem AZ:(Tryz.prog.info? 86).map (λi=>(i.zero,i.size,i.bytes))=some (some (.agg #[.int .i64 0,.int .i64 0,.string .empty,.slice none 0 0,.int .i64 0,.int .i64 0,.string .empty,.slice none 0 0,.slice none 0 0,.int .i64 0,.int .i64 0,.string .empty,.slice none 0 0]),13,192):=by kernel_rfl
theorem Fm(n:Nat)(y:Cl n):∀u∈ex n y,u.oneCell'=true:=mV rfl
theorem rR(M n:Nat)(p:List (Tm n))(len:Nat)(aq:Hid (p.length=len))(a7:len<=8)(a:Option Addr)(pc B:Nat)(w:World)(r:Hid (eY B w n p a))(aK:B<=w.heap.size)(H:Hid (∀x∈p,∀w1,Below w.heap.size w w1->Calls Tryz.prog 114 #[dg n x] w1 (pu (ex (M+1)) (gj (M+1)) (jm (M+1)) (Aq (M+1)) (wZ M n x) w1))):Calls Tryz.prog 113 #[.slice a len pc,.func (Fn.func 114) #[] #[]] w (kE 13 (ex (M+1)) (gj (M+1)) (jm (M+1)) (Aq (M+1)) (cF (wZ M n) p) w):=by
 obtain⟨aT,al,ar,au,av⟩:=bM AZ;have I:=ai (⟨al,ar,au,av⟩:_/\_/\_/\_);clear al ar au av;have q:=ai (dW (M+1));go_enter Tryz.func113,Tryz.ntmps113;go_wp2_with fail;go_loopw [6,13] (λv O wr=>∃(k:Nat)(aB:Value),k<=len/\O=.int .i64 k/\aB=v/\Hid (LY (gj (M+1)) (jm (M+1)) (Aq (M+1)) (ex (M+1)) 13 86 (wZ M n) p w k aB wr)) (λ_ O _=>len-(intOf O).toNat)
 case atStart=>exact⟨0,_,by omega,rfl,rfl,[],[],rfl,eN.nil _,by simp[cF],dz.nil⟩
 case round=>
  obtain⟨k,v,a4,rfl,rfl,V⟩:=hrel;obtain⟨m,E,s,e,Y,W⟩:∃(m E:List (Cl (M+1))),Hid (m.length=k)/\Hid (eN (gj (M+1)) (jm (M+1)) (ex (M+1)) 13 86 0 w.heap.size m v w wr)/\Hid (cF (wZ M n) (p.take k)=some E)/\Hid (dz (Aq (M+1)) m E):=V.out;clear V;have N:w.heap.size<=wr.heap.size:=e.out.1.size;obtain⟨D,K,aw⟩:=e.out.slice;rw[s.out]at aw;subst aw;by_cases aP:k<len
  ·obtain⟨x,C⟩:∃x,p[k]?=some x:=⟨p[k]'(by rw[aq.out];exact aP),aA _⟩;have Z:=ai C;rcases(r.out.below (e.out.1.mono aK))with r|⟨aU,po,rfl,a9,r⟩
   ·subst r;simp at C
   obtain⟨az,aR⟩:=r k x C;have G:Hid (∀w1,Below wr.heap.size wr w1->Calls Tryz.prog 114 #[dg n x] w1 (pu (ex (M+1)) (gj (M+1)) (jm (M+1)) (Aq (M+1)) (wZ M n x) w1)):=λw1 y=>H.out x (ay C) w1 (e.out.1.trans (y.mono N));obtain⟨o,A⟩:∃o,wZ M n x=o:=⟨_,rfl⟩;rw[A]at G;have S:=ai A;have ba:aU<wr.heap.size:=by omega
   clear r C A aR;cases n with
   | zero=>exact az.elim
   | succ n=>
   obtain⟨aW,aX,aY,aZ⟩:=az;have J:dg (n+1) x=.agg #[.int .i64 x.1.1,.int .i64 x.1.2.1,.string x.1.2.2,.slice x.2.1.1 x.2.2.length x.2.1.2]:=rfl;rw[J]at G;clear J;have a5:(0:Int)<=(k:Int):=by omega
   have a6:(k:Int)<(len:Int):=by omega
   go_wp2_with fail;refine(G.out _ aG).mono ?_;rintro a2 h ⟨d,aV,rfl,j⟩;have F:Hid (Below wr.heap.size wr h):=aG.trans (j.out.1.mono (by simp));have ad:wr.heap.size<=h.heap.size:=F.out.size;have ab:Value.agg (ex (M+1) d).toArray=.agg #[.int .i64 d.1.1.1.1,.int .i64 d.1.1.1.2.1,.string d.1.1.1.2.2,.slice d.1.1.2.1.1 d.1.1.2.2.length d.1.1.2.1.2,.int .i64 d.1.2.1.1.1,.int .i64 d.1.2.1.1.2.1,.string d.1.2.1.1.2.2,.slice d.1.2.1.2.1.1 d.1.2.1.2.2.length d.1.2.1.2.1.2,.slice d.2.1.1 d.2.2.length d.2.1.2,.int .i64 d.1.2.2.1.1,.int .i64 d.1.2.2.1.2.1,.string d.1.2.2.1.2.2,.slice d.1.2.2.2.1.1 d.1.2.2.2.2.length d.1.2.2.2.1.2]:=rfl;rw[ab];clear ab G aW aX aY aZ;cases aV
   ·have L:Hid (kE 13 (ex (M+1)) (gj (M+1)) (jm (M+1)) (Aq (M+1)) (cF (wZ M (n+1)) p) w (.returned (.tuple #[.slice none 0 0,.bool false])) (h.alloc (.cells #[.int .i64 d.1.1.1.1,.int .i64 d.1.1.1.2.1,.string d.1.1.1.2.2,.slice d.1.1.2.1.1 d.1.1.2.2.length d.1.1.2.1.2,.int .i64 d.1.2.1.1.1,.int .i64 d.1.2.1.1.2.1,.string d.1.2.1.1.2.2,.slice d.1.2.1.2.1.1 d.1.2.1.2.2.length d.1.2.1.2.1.2,.slice d.2.1.1 d.2.2.length d.2.1.2,.int .i64 d.1.2.2.1.1,.int .i64 d.1.2.2.1.2.1,.string d.1.2.2.1.2.2,.slice d.1.2.2.2.1.1 d.1.2.2.2.2.length d.1.2.2.2.1.2] 86))):=by
      have am:cF (wZ M (n+1)) p=none:=lg _ p k x Z.out (by
       have y:=j.out.2.1;rw[S.out];cases o with
       | none=>rfl
       | some i=>cases y)
      have z:Below w.heap.size w h:=e.out.1.trans (F.out.mono N);refine⟨[],none,0,false,rfl,z.trans (aG.mono z.size),by rw[am];rfl,⟨ag _,aD _⟩,ae rfl,ae rfl,λi l=>by rw[am]at l;cases l⟩
    clear j e;go_wp2_with fail;exact ao (v:=.tuple #[.slice none 0 0,.bool false]) (by simp[results,Tryz.results113,go_sem]) rfl L.out
   ·have X:=λ(P Q:Obj)(g c:Nat)(R:World) aQ aN aL=>ai (eN.step q.out (T:=86) (w1:=(h.alloc P).alloc Q) (w2:=R) (g:=g) (c:=c) e.out (aD _) N (F.out.trans ((aG.trans (aG.mono (by simp))).mono ad)) d (q.out.mono (by simp;omega) (q.out.below (aG.trans (aG.mono (by simp))) j.out.2.2.1)) (q.out.1 _ _ _ (λb z=>af (by simp at z;omega)) j.out.2.2.2.1) aQ aN aL);have U:=λ(P Q:Obj)=>ai (dF e.out.2.1 (F.out.trans ((aG.trans (aG.mono (by simp)):Below h.heap.size h ((h.alloc P).alloc Q)).mono ad)));rw[s.out]at X U;go_wp2_with (at_builtin;refine wpList_append_lies _ rfl _ _ 87 rfl w.heap.size 86 aT _ 13 192 Tryz.underlying87 I.out.1 I.out.2.1 I.out.2.2.1 I.out.2.2.2 rfl (by decide) (.slice D k K) k (m.flatMap (ex (M+1))) (by simp[Act.eval]) (U _ _).out ⟨h.heap.size+1,0,none⟩ 1 1 (ex (M+1) d) (by simp[Act.eval]) rfl (World.news_of_block (cs:= #[.int .i64 d.1.1.1.1,.int .i64 d.1.1.1.2.1,.string d.1.1.1.2.2,.slice d.1.1.2.1.1 d.1.1.2.2.length d.1.1.2.1.2,.int .i64 d.1.2.1.1.1,.int .i64 d.1.2.1.1.2.1,.string d.1.2.1.1.2.2,.slice d.1.2.1.2.1.1 d.1.2.1.2.2.length d.1.2.1.2.1.2,.slice d.2.1.1 d.2.2.length d.2.1.2,.int .i64 d.1.2.2.1.1,.int .i64 d.1.2.2.1.2.1,.string d.1.2.2.1.2.2,.slice d.1.2.2.2.1.1 d.1.2.2.2.2.length d.1.2.2.2.1.2]) (t:=86) (fr:=(0,0)) (by have u:=ax (h.alloc (.cells #[.int .i64 d.1.1.1.1,.int .i64 d.1.1.1.2.1,.string d.1.1.1.2.2,.slice d.1.1.2.1.1 d.1.1.2.2.length d.1.1.2.1.2,.int .i64 d.1.2.1.1.1,.int .i64 d.1.2.1.1.2.1,.string d.1.2.1.1.2.2,.slice d.1.2.1.2.1.1 d.1.2.1.2.2.length d.1.2.1.2.1.2,.slice d.2.1.1 d.2.2.length d.2.1.2,.int .i64 d.1.2.2.1.1,.int .i64 d.1.2.2.1.2.1,.string d.1.2.2.1.2.2,.slice d.1.2.2.2.1.1 d.1.2.2.2.2.length d.1.2.2.2.1.2] 86)) (.cells #[.int .i64 d.1.1.1.1,.int .i64 d.1.1.1.2.1,.string d.1.1.1.2.2,.slice d.1.1.2.1.1 d.1.1.2.2.length d.1.1.2.1.2,.int .i64 d.1.2.1.1.1,.int .i64 d.1.2.1.1.2.1,.string d.1.2.1.1.2.2,.slice d.1.2.1.2.1.1 d.1.2.1.2.2.length d.1.2.1.2.1.2,.slice d.2.1.1 d.2.2.length d.2.1.2,.int .i64 d.1.2.2.1.1,.int .i64 d.1.2.2.1.2.1,.string d.1.2.2.1.2.2,.slice d.1.2.2.2.1.1 d.1.2.2.2.2.length d.1.2.2.2.1.2] 86);simp only[jb]at u;exact u)) (Fm _ _) (by decide) (by unfold maxLen;omega) (by omega) (by simp;omega) (h.heap.size+1+1) (by simp) ?_;intro aJ aH R an ak aj a8;have aF:=X _ _ aJ aH R an ak (by simpa using aj);clear an ak aj);have aC:Hid (∃i,o=some i/\Aq (M+1) d i):=by
     have y:=j.out.2.1;cases o with
     | none=>cases y
     | some i=>exact⟨i,rfl,j.out.2.2.2.2 i rfl⟩
    obtain⟨i,l,aS⟩:=aC.out;have aE:=ai (S.out.trans l);go_roundw
    case rel=>exact⟨k+1,_,by omega,by go_num,rfl,m++ [d],E++ [i],by simp[s.out],aF.out,qr _ _ _ _ Z.out _ _ Y.out aE.out,W.out.snoc aS⟩
    case measure=>simp[intOf];omega
  ·have L:Hid (kE 13 (ex (M+1)) (gj (M+1)) (jm (M+1)) (Aq (M+1)) (cF (wZ M n) p) w (.returned (.tuple #[.slice D k K,.bool true])) wr):=by
     have ah:cF (wZ M n) p=some E:=by have u:=Y.out;rw[bk (by rw[aq.out];omega)]at u;exact u
     obtain⟨a0,a1,aa,aM,aO,A⟩:=eN.lay (f:=ex (M+1)) (k:=13) q.out (λ_=>rfl) e.out;rw[s.out]at aa;injection aa with aI a3 J;subst aI J;refine⟨m,D,K,true,by rw[s.out],e.out.1,by rw[ah];rfl,aM,aO,?_,λi l=>by rw[ah]at l;obtain rfl:=ap l;exact W.out⟩;exact(bZ q.out 13 (ex (M+1)) D).1 _ _ _ (λb z=>by omega) A
   clear e;go_wp2_with fail;exact ao (v:=.tuple #[.slice D k K,.bool true]) (by simp[results,Tryz.results113,go_sem]) rfl L.out
theorem uv:(Tryz.prog.info? 89).map (λi=>(i.zero,i.size,i.bytes))=some (some (.agg #[.string .empty,.slice none 0 0]),2,40):=by kernel_rfl
theorem Io(n:Nat)(y:Bh n):∀u∈nr n y,u.oneCell'=true:=mV rfl
theorem oV(M n:Nat)(p:List (Tm n))(len:Nat)(aq:Hid (p.length=len))(a7:len<=8)(a:Option Addr)(pc B:Nat)(w:World)(r:Hid (eY B w n p a))(aK:B<=w.heap.size)(H:Hid (∀x∈p,∀w1,Below w.heap.size w w1->Calls Tryz.prog 83 #[dg n x] w1 (pu (nr (M+1)) (og (M+1)) (jl (M+1)) (sJ (M+1)) (wY M n x) w1))):Calls Tryz.prog 82 #[.slice a len pc,.func (Fn.func 83) #[] #[]] w (kE 2 (nr (M+1)) (og (M+1)) (jl (M+1)) (sJ (M+1)) (cF (wY M n) p) w):=by
 obtain⟨aT,al,ar,au,av⟩:=bM uv;have I:=ai (⟨al,ar,au,av⟩:_/\_/\_/\_);clear al ar au av;have q:=ai (dH (M+1));go_enter Tryz.func82,Tryz.ntmps82;go_wp2_with fail;go_loopw [6,13] (λv O wr=>∃(k:Nat)(aB:Value),k<=len/\O=.int .i64 k/\aB=v/\Hid (LY (og (M+1)) (jl (M+1)) (sJ (M+1)) (nr (M+1)) 2 89 (wY M n) p w k aB wr)) (λ_ O _=>len-(intOf O).toNat)
 case atStart=>exact⟨0,_,by omega,rfl,rfl,[],[],rfl,eN.nil _,by simp[cF],dz.nil⟩
 case round=>
  obtain⟨k,v,a4,rfl,rfl,V⟩:=hrel;obtain⟨m,E,s,e,Y,W⟩:∃(m E:List (Bh (M+1))),Hid (m.length=k)/\Hid (eN (og (M+1)) (jl (M+1)) (nr (M+1)) 2 89 0 w.heap.size m v w wr)/\Hid (cF (wY M n) (p.take k)=some E)/\Hid (dz (sJ (M+1)) m E):=V.out;clear V;have N:w.heap.size<=wr.heap.size:=e.out.1.size;obtain⟨D,K,aw⟩:=e.out.slice;rw[s.out]at aw;subst aw;by_cases aP:k<len
  ·obtain⟨x,C⟩:∃x,p[k]?=some x:=⟨p[k]'(by rw[aq.out];exact aP),aA _⟩;have Z:=ai C;rcases(r.out.below (e.out.1.mono aK))with r|⟨aU,po,rfl,a9,r⟩
   ·subst r;simp at C
   obtain⟨az,aR⟩:=r k x C;have G:Hid (∀w1,Below wr.heap.size wr w1->Calls Tryz.prog 83 #[dg n x] w1 (pu (nr (M+1)) (og (M+1)) (jl (M+1)) (sJ (M+1)) (wY M n x) w1)):=λw1 y=>H.out x (ay C) w1 (e.out.1.trans (y.mono N));obtain⟨o,A⟩:∃o,wY M n x=o:=⟨_,rfl⟩;rw[A]at G;have S:=ai A;have ba:aU<wr.heap.size:=by omega
   clear r C A aR;cases n with
   | zero=>exact az.elim
   | succ n=>
   obtain⟨aW,aX,aY,aZ⟩:=az;have J:dg (n+1) x=.agg #[.int .i64 x.1.1,.int .i64 x.1.2.1,.string x.1.2.2,.slice x.2.1.1 x.2.2.length x.2.1.2]:=rfl;rw[J]at G;clear J;have a5:(0:Int)<=(k:Int):=by omega
   have a6:(k:Int)<(len:Int):=by omega
   go_wp2_with fail;refine(G.out _ aG).mono ?_;rintro a2 h ⟨d,aV,rfl,j⟩;have F:Hid (Below wr.heap.size wr h):=aG.trans (j.out.1.mono (by simp));have ad:wr.heap.size<=h.heap.size:=F.out.size;have ab:Value.agg (nr (M+1) d).toArray=.agg #[.string d.1,.slice d.2.1.1 d.2.2.length d.2.1.2]:=rfl;rw[ab];clear ab G aW aX aY aZ;cases aV
   ·have L:Hid (kE 2 (nr (M+1)) (og (M+1)) (jl (M+1)) (sJ (M+1)) (cF (wY M (n+1)) p) w (.returned (.tuple #[.slice none 0 0,.bool false])) (h.alloc (.cells #[.string d.1,.slice d.2.1.1 d.2.2.length d.2.1.2] 89))):=by
      have am:cF (wY M (n+1)) p=none:=lg _ p k x Z.out (by
       have y:=j.out.2.1;rw[S.out];cases o with
       | none=>rfl
       | some i=>cases y)
      have z:Below w.heap.size w h:=e.out.1.trans (F.out.mono N);refine⟨[],none,0,false,rfl,z.trans (aG.mono z.size),by rw[am];rfl,⟨ag _,aD _⟩,ae rfl,ae rfl,λi l=>by rw[am]at l;cases l⟩
    clear j e;go_wp2_with fail;exact ao (v:=.tuple #[.slice none 0 0,.bool false]) (by simp[results,Tryz.results82,go_sem]) rfl L.out
   ·have X:=λ(P Q:Obj)(g c:Nat)(R:World) aQ aN aL=>ai (eN.step q.out (T:=89) (w1:=(h.alloc P).alloc Q) (w2:=R) (g:=g) (c:=c) e.out (aD _) N (F.out.trans ((aG.trans (aG.mono (by simp))).mono ad)) d (q.out.mono (by simp;omega) (q.out.below (aG.trans (aG.mono (by simp))) j.out.2.2.1)) (q.out.1 _ _ _ (λb z=>af (by simp at z;omega)) j.out.2.2.2.1) aQ aN aL);have U:=λ(P Q:Obj)=>ai (dF e.out.2.1 (F.out.trans ((aG.trans (aG.mono (by simp)):Below h.heap.size h ((h.alloc P).alloc Q)).mono ad)));rw[s.out]at X U;go_wp2_with (at_builtin;refine wpList_append_lies _ rfl _ _ 22 rfl w.heap.size 89 aT _ 2 40 Tryz.underlying22 I.out.1 I.out.2.1 I.out.2.2.1 I.out.2.2.2 rfl (by decide) (.slice D k K) k (m.flatMap (nr (M+1))) (by simp[Act.eval]) (U _ _).out ⟨h.heap.size+1,0,none⟩ 1 1 (nr (M+1) d) (by simp[Act.eval]) rfl (World.news_of_block (cs:= #[.string d.1,.slice d.2.1.1 d.2.2.length d.2.1.2]) (t:=89) (fr:=(0,0)) (by have u:=ax (h.alloc (.cells #[.string d.1,.slice d.2.1.1 d.2.2.length d.2.1.2] 89)) (.cells #[.string d.1,.slice d.2.1.1 d.2.2.length d.2.1.2] 89);simp only[jb]at u;exact u)) (Io _ _) (by decide) (by unfold maxLen;omega) (by omega) (by simp;omega) (h.heap.size+1+1) (by simp) ?_;intro aJ aH R an ak aj a8;have aF:=X _ _ aJ aH R an ak (by simpa using aj);clear an ak aj);have aC:Hid (∃i,o=some i/\sJ (M+1) d i):=by
     have y:=j.out.2.1;cases o with
     | none=>cases y
     | some i=>exact⟨i,rfl,j.out.2.2.2.2 i rfl⟩
    obtain⟨i,l,aS⟩:=aC.out;have aE:=ai (S.out.trans l);go_roundw
    case rel=>exact⟨k+1,_,by omega,by go_num,rfl,m++ [d],E++ [i],by simp[s.out],aF.out,qr _ _ _ _ Z.out _ _ Y.out aE.out,W.out.snoc aS⟩
    case measure=>simp[intOf];omega
  ·have L:Hid (kE 2 (nr (M+1)) (og (M+1)) (jl (M+1)) (sJ (M+1)) (cF (wY M n) p) w (.returned (.tuple #[.slice D k K,.bool true])) wr):=by
     have ah:cF (wY M n) p=some E:=by have u:=Y.out;rw[bk (by rw[aq.out];omega)]at u;exact u
     obtain⟨a0,a1,aa,aM,aO,A⟩:=eN.lay (f:=nr (M+1)) (k:=2) q.out (λ_=>rfl) e.out;rw[s.out]at aa;injection aa with aI a3 J;subst aI J;refine⟨m,D,K,true,by rw[s.out],e.out.1,by rw[ah];rfl,aM,aO,?_,λi l=>by rw[ah]at l;obtain rfl:=ap l;exact W.out⟩;exact(bZ q.out 2 (nr (M+1)) D).1 _ _ _ (λb z=>by omega) A
   clear e;go_wp2_with fail;exact ao (v:=.tuple #[.slice D k K,.bool true]) (by simp[results,Tryz.results82,go_sem]) rfl L.out
end Go.Proofs.YtnidfceinoiboaaGreat
